/-
 Layer 19 by the second engine: PageBack, the law.
-/
import Derived.Test.YtgondiedehjkhaaGreatDoorSycpgb
import Derived.Test.YtgondiedehjkhaaGreatDoorYzpgb
import Derived.Test.YtgondiedehjkhaaGreatDoorE00pgb
namespace Go.Proofs.YtgondiedehjkhaaGreatDoor
open Go.RowKit Go.Extern.Stop Go.Stop Go.Extern Go.Proofs.YtgondiedehjkhaaGreatDoor.Sy
set_option linter.unusedVariables false
set_option linter.unusedSimpArgs false
abbrev xryypgbk0_ : Tm := (.tup (.cons z0_ (.cons z1_ (.cons z2_ (.cons z3_ (.cons (.int .u32 v4_) (.cons z5_ (.cons (.int .u32 v6_) (.cons z7_ (.cons z8_ (.cons z9_ .nil)))))))))))
abbrev xryypgbk1_ : Tm := (.wrap .u64 (ml_ (.lit 2) (.wrap .u64 (.i2 .quo (.var 10) (.lit 2)))))
abbrev xryypgbk17_ : Tm := (.iapp 26 (.cons xryypgbk0_ (.cons (.int .u64 xryypgbk1_) (.cons (.int .i64 (.lit 8)) .nil))))
abbrev xryypgbk33_ : Tm := (an_ (le_ (.lit 0) xryypgbk17_) (le_ xryypgbk17_ (.lit 18446744073709551615)))
abbrev xryypgbk16_ : Tm := (.iapp 26 (.cons xryypgbk0_ (.cons (.int .u64 xryypgbk1_) (.cons (.int .i64 (.lit 9)) .nil))))
abbrev xryypgbk34_ : Tm := (an_ (le_ (.lit 0) xryypgbk16_) (le_ xryypgbk16_ (.lit 18446744073709551615)))
abbrev xryypgbk15_ : Tm := (.iapp 26 (.cons xryypgbk0_ (.cons (.int .u64 xryypgbk1_) (.cons (.int .i64 (.lit 10)) .nil))))
abbrev xryypgbk35_ : Tm := (an_ (le_ (.lit 0) xryypgbk15_) (le_ xryypgbk15_ (.lit 18446744073709551615)))
abbrev xryypgbk14_ : Tm := (.iapp 26 (.cons xryypgbk0_ (.cons (.int .u64 xryypgbk1_) (.cons (.int .i64 (.lit 11)) .nil))))
abbrev xryypgbk36_ : Tm := (an_ (le_ (.lit 0) xryypgbk14_) (le_ xryypgbk14_ (.lit 18446744073709551615)))
abbrev xryypgbk21_ : Tm := (.iapp 26 (.cons xryypgbk0_ (.cons (.int .u64 xryypgbk1_) (.cons (.int .i64 (.lit 12)) .nil))))
abbrev xryypgbk20_ : Tm := (.iapp 26 (.cons xryypgbk0_ (.cons (.int .u64 xryypgbk1_) (.cons (.int .i64 (.lit 13)) .nil))))
abbrev xryypgbk19_ : Tm := (.iapp 26 (.cons xryypgbk0_ (.cons (.int .u64 xryypgbk1_) (.cons (.int .i64 (.lit 14)) .nil))))
abbrev xryypgbk18_ : Tm := (.iapp 26 (.cons xryypgbk0_ (.cons (.int .u64 xryypgbk1_) (.cons (.int .i64 (.lit 15)) .nil))))
abbrev xryypgbk13_ : Tm := (an_ (an_ (le_ (.lit 0) xryypgbk21_) (le_ xryypgbk21_ (.lit 18446744073709551615))) (an_ (an_ (le_ (.lit 0) xryypgbk20_) (le_ xryypgbk20_ (.lit 18446744073709551615))) (an_ (an_ (le_ (.lit 0) xryypgbk19_) (le_ xryypgbk19_ (.lit 18446744073709551615))) (an_ (le_ (.lit 0) xryypgbk18_) (le_ xryypgbk18_ (.lit 18446744073709551615))))))
abbrev xryypgbk2_ : Tm := (an_ xryypgbk33_ (an_ xryypgbk34_ (an_ xryypgbk35_ (an_ xryypgbk36_ xryypgbk13_))))
abbrev xryypgbk3_ : Tm := (.i2 (.shl .u64) (.lit 1) (.wrap .u64 (.i2 .rem (wr_ (.i2 .rem (.wrap .u64 (.var 11)) (.lit 960))) (.lit 64))))
abbrev xryypgbk4_ : Tm := (an_ (an_ (le_ lm_ v0_) (le_ v0_ lM_)) (an_ (an_ (le_ lm_ v1_) (le_ v1_ lM_)) (an_ (an_ (le_ lm_ v2_) (le_ v2_ lM_)) (an_ (an_ (le_ lm_ v3_) (le_ v3_ lM_)) (an_ (an_ (le_ (.lit 0) v4_) (le_ v4_ (.lit 4294967295))) (an_ (an_ (le_ lm_ v5_) (le_ v5_ lM_)) (an_ (an_ (le_ (.lit 0) v6_) (le_ v6_ (.lit 4294967295))) (an_ (an_ (le_ lm_ v7_) (le_ v7_ lM_)) (an_ (an_ (le_ lm_ v8_) (le_ v8_ lM_)) (an_ (le_ lm_ v9_) (le_ v9_ lM_)))))))))))
abbrev xryypgbk5_ : Tm := (.iapp 26 (.cons xryypgbk0_ (.cons (.int .u64 xryypgbk1_) (.cons (.int .i64 (.lit 7)) .nil))))
abbrev xryypgbk6_ : Tm := (.iapp 26 (.cons xryypgbk0_ (.cons (.int .u64 xryypgbk1_) (.cons (.int .i64 (.lit 6)) .nil))))
abbrev xryypgbk7_ : Tm := (.iapp 26 (.cons xryypgbk0_ (.cons (.int .u64 xryypgbk1_) (.cons (.int .i64 (.lit 5)) .nil))))
abbrev xryypgbk8_ : Tm := (.iapp 26 (.cons xryypgbk0_ (.cons (.int .u64 xryypgbk1_) (.cons (.int .i64 (.lit 4)) .nil))))
abbrev xryypgbk9_ : Tm := (.iapp 26 (.cons xryypgbk0_ (.cons (.int .u64 xryypgbk1_) (.cons (.int .i64 (.lit 3)) .nil))))
abbrev xryypgbk10_ : Tm := (.iapp 26 (.cons xryypgbk0_ (.cons (.int .u64 xryypgbk1_) (.cons (.int .i64 (.lit 2)) .nil))))
abbrev xryypgbk11_ : Tm := (.iapp 26 (.cons xryypgbk0_ (.cons (.int .u64 xryypgbk1_) (.cons (.int .i64 (.lit 1)) .nil))))
abbrev xryypgbk12_ : Tm := (.iapp 26 (.cons xryypgbk0_ (.cons (.int .u64 xryypgbk1_) (.cons (.int .i64 (.lit 0)) .nil))))
abbrev xryypgbk22_ : Tm := (wr_ (ad_ (.lit 1) (wr_ (.i2 .quo (wr_ (.i2 .rem (.wrap .u64 (.var 11)) (.lit 960))) (.lit 64)))))
abbrev xryypgbk23_ : Tm := (le_ (.lit 0) (.wrap .u64 (.i2 .rem (wr_ (.i2 .rem (.wrap .u64 (.var 11)) (.lit 960))) (.lit 64))))
abbrev xryypgbk29_ : Tm := (an_ (le_ (.lit 0) xryypgbk8_) (le_ xryypgbk8_ (.lit 18446744073709551615)))
abbrev xryypgbk30_ : Tm := (an_ (le_ (.lit 0) xryypgbk7_) (le_ xryypgbk7_ (.lit 18446744073709551615)))
abbrev xryypgbk31_ : Tm := (an_ (le_ (.lit 0) xryypgbk6_) (le_ xryypgbk6_ (.lit 18446744073709551615)))
abbrev xryypgbk32_ : Tm := (an_ (le_ (.lit 0) xryypgbk5_) (le_ xryypgbk5_ (.lit 18446744073709551615)))
abbrev xryypgbk24_ : Tm := (an_ xryypgbk29_ (an_ xryypgbk30_ (an_ xryypgbk31_ (an_ xryypgbk32_ xryypgbk2_))))
abbrev xryypgbk25_ : Tm := (an_ (le_ (.lit 0) xryypgbk12_) (le_ xryypgbk12_ (.lit 18446744073709551615)))
abbrev xryypgbk26_ : Tm := (an_ (le_ (.lit 0) xryypgbk11_) (le_ xryypgbk11_ (.lit 18446744073709551615)))
abbrev xryypgbk27_ : Tm := (an_ (le_ (.lit 0) xryypgbk10_) (le_ xryypgbk10_ (.lit 18446744073709551615)))
abbrev xryypgbk28_ : Tm := (an_ (le_ (.lit 0) xryypgbk9_) (le_ xryypgbk9_ (.lit 18446744073709551615)))
abbrev xryypgbk37_ : Tm := (.iapp 34 (.cons (.int .u64 xryypgbk1_) .nil))
abbrev xryypgbk38_ : Tm := (.agg (.cons z0_ (.cons z1_ (.cons z2_ (.cons z3_ (.cons (.int .u32 v4_) (.cons z5_ (.cons (.int .u32 v6_) (.cons z7_ (.cons z8_ (.cons z9_ .nil)))))))))))
abbrev xryypgbk39_ : Tm := (an_ xryypgbk4_ (an_ (an_ (le_ (.lit 0) (.var 10)) (le_ (.var 10) (.lit 18446744073709551615))) (an_ (le_ lm_ (.var 11)) (le_ (.var 11) lM_))))
theorem good_split {P : Program} {G : Glob} {ρ : Env} {c : Con} (C : Tm) (h1 : Con.Good P G ρ { c with cnd := .b2 .and c.cnd C }) (h2 : Con.Good P G ρ { c with cnd := .b2 .and c.cnd (.not C) }) : c.Good P G ρ := by
 intro iv bv vv sv β ok w xs n1 n2 n3 n4 hc ho hG hr he
 by_cases h : holds { ρ with iv := iv, bv := bv, vv := vv, sv := sv } C
 · exact h1 iv bv vv sv β ok w xs n1 n2 n3 n4 ⟨hc, h⟩ ho hG hr he
 · exact h2 iv bv vv sv β ok w xs n1 n2 n3 n4 ⟨hc, h⟩ ho hG hr he
noncomputable def yyI : Nat → List Value → Int
 | i, l => yzI i l
noncomputable def yyB : Nat → List Value → Bool
 | i, l => yzB i l
noncomputable def yyV : Nat → List Value → Value
 | i, l => yzV i l
noncomputable abbrev yyE (iv : List Int) (bv : List Bool) (vv : List Value) (sv : List ByteArray) : Env := { iv := iv, bv := bv, vv := vv, sv := sv, fi := yyI, fb := yyB, fv := yyV, et := 111 }
set_option maxHeartbeats 8000000 in
theorem yyup : Agree 36 6 13 (yzE [] [] [] []) (yyE [] [] [] []) := ⟨rfl, (by
   intro f hf
   funext l
   show yyI f l = yzI f l
   unfold yyI
   split <;> first | rfl | omega), (by
   intro f hf
   funext l
   show yyB f l = yzB f l
   unfold yyB
   split <;> first | rfl | omega), (by
   intro f hf
   funext l
   show yyV f l = yzV f l
   unfold yyV
   split <;> first | rfl | omega)⟩
theorem yyi_pge (l : Value) : yyI 24 [l] = pgL (rows l) := rfl
theorem yyi_lw (l : Value) (k1 : IntKind) (q : Int) (k2 : IntKind) (k : Int) : yyI 26 [l, .int k1 q, .int k2 k] = wdK (rows l) q k.toNat := rfl
theorem yyi_pce (l : Value) : yyI 27 [l] = pcE (rows l) := rfl
theorem yyi_pcn (l : Value) (k1 : IntKind) (k : Int) : yyI 28 [l, .int k1 k] = pcN (rows l) k.toNat := rfl
theorem yyi_rde (l : Value) : yyI 32 [l] = rdE (rows l) := rfl
theorem yyi_od (k1 : IntKind) (q : Int) : yyI 34 [.int k1 q] = odE q := rfl
theorem yyi_gz (k1 : IntKind) (e : Int) (k2 : IntKind) (x : Int) : yyI 35 [.int k1 e, .int k2 x] = gzF e x := rfl
theorem yyb_okr (l : Value) : yyB 0 [l] = okR (rows l) := rfl
theorem yyb_pm (l : Value) : yyB 5 [l] = pgB (rows l) := rfl
theorem yyv_pkv (l : Value) : yyV 12 [l] = pkV (rows l) := rfl
def wBackX_tree : Tree :=
 (.need xryypgbk4_
 (.need (an_ xryypgbk4_ (an_ (le_ (.lit 0) (.var 10)) (le_ (.var 10) (.lit 18446744073709551615))))
 (.need xryypgbk4_
 (.br (eq_ (.iapp 24 (.cons xryypgbk0_ .nil)) (.lit 1))
 (.ret (.bool (.tt true)))
 (.ret (.bool (.tt false)))))))
abbrev yyc_wBackX : Con := ⟨4, [xryypgbk38_, (.int .u64 (.var 10)), (.int .i64 (.var 11))], (an_ xryypgbk39_ (.not (eq_ (.iapp 24 (.cons xryypgbk0_ .nil)) (.lit 0)))), (.bool (.tt true)), ⟨12, 0, 0, 0⟩, none⟩
theorem wBackX_w : walkQ Tryz.prog 111 ⟨[zyc_give19, zuc_pcheck, yzc_layt, zyc_penc, zyc_num, za9c_sure19], syG, [], [], []⟩ [] .v yyc_wBackX yyc_wBackX.n 3000 (pcOf yyc_wBackX.cnd) = some wBackX_tree := by kernel_rfl
theorem wBackX_h (pe pb pt pr gm gs qm qs pp pc sq bt : Int) : Hyp_ yyc_wBackX wBackX_tree (yyE [pe, pb, pt, pr, gm, gs, qm, qs, pp, pc, sq, bt] [] [] []) := by
 intro hc hty
 simp only [yyc_wBackX, Sy.holds, yyE, denV, denI, denB, denL, I2.den, VOp.den, List.getD_cons_zero, List.getD_cons_succ, Cst.den, syso, syse, syio, sybo, yyi_pge, B2.ofInts, B2.denI, B2.denB, if_true, Bool.false_eq_true, if_false, Nat.div_one, Nat.mul_one, Nat.add_zero] at hc
 simp only [yyc_wBackX, patsTyp, patTyp, patTypL, yyE, denV, denL, List.getD_cons_zero, List.getD_cons_succ, and_true, true_and] at hty
 unfold wBackX_tree
 simp only [yyc_wBackX, Tree.holds, Sy.holds, yyE, denV, denI, denB, denL, I2.den, VOp.den, List.getD_cons_zero, List.getD_cons_succ, Cst.den, syso, syse, syio, sybo, yyi_pge, B2.ofInts, B2.denI, B2.denB, if_true, Bool.false_eq_true, if_false, Nat.div_one, Nat.mul_one, Nat.add_zero]
 have hn := hc.2
 have hl := pgL_if (Sy.rows (pgT pe pb pt pr gm gs qm qs pp pc))
 have hp1 : pgL (Sy.rows (pgT pe pb pt pr gm gs qm qs pp pc)) = 1 := by (rcases pg_or (Sy.rows (pgT pe pb pt pr gm gs qm qs pp pc)) with ⟨_, h⟩ | ⟨_, h⟩; exact h; exact absurd h hn)
 refine ⟨?_, fun h0 => ?_⟩
 refine ?a0; rotate_left
 refine ⟨?_, fun h1 => ?_⟩
 refine ?a1; rotate_left
 refine ⟨?_, fun h2 => ?_⟩
 refine ?a2; rotate_left
 refine ⟨fun h3 => ?_, fun h3 => ?_⟩
 refine ?a3; rotate_left
 refine ?a4; rotate_left
 case a0 | a1 | a2 =>
  first
  | exact True.intro
  | exact hc.1.1
  | exact ⟨hc.1.1, hc.1.2.1⟩
  | omega
  | skip
 case a3 | a4 =>
  first
  | exact True.intro
  | rfl
  | exact absurd hp1 (by assumption)
  | exact absurd True.intro (by assumption)
  | (exfalso; simp only [hp1] at *; omega)
  | skip
theorem yyg_wBackX : yyc_wBackX.Good Tryz.prog syG (yyE [] [] [] []) := good_of_walkC (Γ := ⟨[zyc_give19, zuc_pcheck, yzc_layt, zyc_penc, zyc_num, za9c_sure19], syG, [], [], []⟩) (ρ := yyE [] [] [] []) sym wBackX_w rfl (fun _ _ _ _ => (ok_cons (Con.Good.env (Con.Good.up (Con.Good.up (Con.Good.up zyg_give19 za9up rfl) yzup rfl) yyup rfl) _ _ _ _) (ok_cons (Con.Good.env (Con.Good.up (Con.Good.up (Con.Good.up (Con.Good.up zug_pcheck zyup rfl) za9up rfl) yzup rfl) yyup rfl) _ _ _ _) (ok_cons (Con.Good.env (Con.Good.up yzg_layt yyup rfl) _ _ _ _) (ok_cons (Con.Good.env (Con.Good.up (Con.Good.up (Con.Good.up zyg_penc za9up rfl) yzup rfl) yyup rfl) _ _ _ _) (ok_cons (Con.Good.env (Con.Good.up (Con.Good.up (Con.Good.up zyg_num za9up rfl) yzup rfl) yyup rfl) _ _ _ _) (ok_cons (Con.Good.env (Con.Good.up (Con.Good.up za9g_sure19 yzup rfl) yyup rfl) _ _ _ _) ok_nil))))))) wBackX_h
def wBackV_tree : Tree :=
 (.need xryypgbk4_
 (.need (an_ xryypgbk4_ (an_ (.bapp 5 (.cons xryypgbk0_ .nil)) (an_ (le_ (.lit 0) xryypgbk1_) (le_ xryypgbk1_ (.lit 18446744073709551615)))))
 (.need (an_ xryypgbk4_ (an_ (.bapp 5 (.cons xryypgbk0_ .nil)) (an_ (le_ (.lit 0) xryypgbk1_) (le_ xryypgbk1_ (.lit 18446744073709551615)))))
 (.need (an_ xryypgbk4_ (an_ (.bapp 5 (.cons xryypgbk0_ .nil)) (an_ (le_ (.lit 0) (.wrap .u64 (ad_ xryypgbk1_ (.lit 1)))) (le_ (.wrap .u64 (ad_ xryypgbk1_ (.lit 1))) (.lit 18446744073709551615)))))
 (.need (an_ xryypgbk4_ (an_ (.bapp 5 (.cons xryypgbk0_ .nil)) (an_ (le_ (.lit 0) (.wrap .u64 (ad_ xryypgbk1_ (.lit 1)))) (le_ (.wrap .u64 (ad_ xryypgbk1_ (.lit 1))) (.lit 18446744073709551615)))))
 (.need xryypgbk4_
 (.need (an_ (.bapp 0 (.cons (.vapp 12 (.cons xryypgbk0_ .nil)) .nil)) (le_ (.ofI (.vop (.len 1) (.cons (.vapp 12 (.cons xryypgbk0_ .nil)) .nil))) (.lit 4096)))
 (.br (.not (eq_ xryypgbk37_ (.lit 0)))
 (.ret (.bool (.tt false)))
 (.br (.not (eq_ (.iapp 27 (.cons (.vapp 12 (.cons xryypgbk0_ .nil)) .nil)) (.lit 0)))
 (.ret (.bool (.tt false)))
 (.br (.not (eq_ (.iapp 34 (.cons (.int .u64 (.wrap .u64 (ad_ xryypgbk1_ (.lit 1)))) .nil)) (.lit 15)))
 (.ret (.bool (.tt false)))
 (.br (.not (an_ (eq_ (.iapp 35 (.cons (.int .i64 xryypgbk37_) (.cons z0_ .nil))) v0_) (an_ (eq_ (.iapp 35 (.cons (.int .i64 xryypgbk37_) (.cons z1_ .nil))) v1_) (an_ (eq_ (.iapp 35 (.cons (.int .i64 xryypgbk37_) (.cons z2_ .nil))) v2_) (an_ (eq_ (.iapp 35 (.cons (.int .i64 xryypgbk37_) (.cons z3_ .nil))) v3_) (an_ (an_ (eq_ (.iapp 35 (.cons (.int .i64 xryypgbk37_) (.cons z4_ .nil))) v4_) (eq_ (.iapp 35 (.cons (.int .i64 xryypgbk37_) (.cons z5_ .nil))) v5_)) (an_ (an_ (eq_ (.iapp 35 (.cons (.int .i64 xryypgbk37_) (.cons z6_ .nil))) v6_) (eq_ (.iapp 35 (.cons (.int .i64 xryypgbk37_) (.cons z7_ .nil))) v7_)) (an_ (eq_ (.iapp 35 (.cons (.int .i64 xryypgbk37_) (.cons z8_ .nil))) v8_) (eq_ (.iapp 35 (.cons (.int .i64 xryypgbk37_) (.cons z9_ .nil))) v9_)))))))))
 (.ret (.bool (.tt false)))
 (.br (.not (an_ (eq_ (.iapp 28 (.cons (.vapp 12 (.cons xryypgbk0_ .nil)) (.cons (.int .i64 (.lit 0)) .nil))) v0_) (an_ (eq_ (.iapp 28 (.cons (.vapp 12 (.cons xryypgbk0_ .nil)) (.cons (.int .i64 (.lit 1)) .nil))) v1_) (an_ (eq_ (.iapp 28 (.cons (.vapp 12 (.cons xryypgbk0_ .nil)) (.cons (.int .i64 (.lit 2)) .nil))) v2_) (an_ (eq_ (.iapp 28 (.cons (.vapp 12 (.cons xryypgbk0_ .nil)) (.cons (.int .i64 (.lit 3)) .nil))) v3_) (an_ (an_ (eq_ (.iapp 28 (.cons (.vapp 12 (.cons xryypgbk0_ .nil)) (.cons (.int .i64 (.lit 4)) .nil))) v4_) (eq_ (.iapp 28 (.cons (.vapp 12 (.cons xryypgbk0_ .nil)) (.cons (.int .i64 (.lit 5)) .nil))) v5_)) (an_ (an_ (eq_ (.iapp 28 (.cons (.vapp 12 (.cons xryypgbk0_ .nil)) (.cons (.int .i64 (.lit 6)) .nil))) v6_) (eq_ (.iapp 28 (.cons (.vapp 12 (.cons xryypgbk0_ .nil)) (.cons (.int .i64 (.lit 7)) .nil))) v7_)) (an_ (eq_ (.iapp 28 (.cons (.vapp 12 (.cons xryypgbk0_ .nil)) (.cons (.int .i64 (.lit 8)) .nil))) v8_) (eq_ (.iapp 28 (.cons (.vapp 12 (.cons xryypgbk0_ .nil)) (.cons (.int .i64 (.lit 9)) .nil))) v9_)))))))))
 (.ret (.bool (.tt false)))
 (.br (eq_ xryypgbk22_ (.lit 0))
 (.need xryypgbk23_
 (.need (an_ (an_ (le_ (.lit 0) (.i2 (.bits .xor .u64) xryypgbk12_ xryypgbk3_)) (le_ (.i2 (.bits .xor .u64) xryypgbk12_ xryypgbk3_) (.lit 18446744073709551615))) (an_ xryypgbk26_ (an_ xryypgbk27_ (an_ xryypgbk28_ xryypgbk24_))))
 (.br (eq_ (.iapp 32 (.cons (.tup (.cons (.int .u64 (.i2 (.bits .xor .u64) xryypgbk12_ xryypgbk3_)) (.cons (.int .u64 xryypgbk11_) (.cons (.int .u64 xryypgbk10_) (.cons (.int .u64 xryypgbk9_) (.cons (.int .u64 xryypgbk8_) (.cons (.int .u64 xryypgbk7_) (.cons (.int .u64 xryypgbk6_) (.cons (.int .u64 xryypgbk5_) (.cons (.int .u64 xryypgbk17_) (.cons (.int .u64 xryypgbk16_) (.cons (.int .u64 xryypgbk15_) (.cons (.int .u64 xryypgbk14_) (.cons (.int .u64 xryypgbk21_) (.cons (.int .u64 xryypgbk20_) (.cons (.int .u64 xryypgbk19_) (.cons (.int .u64 xryypgbk18_) .nil))))))))))))))))) .nil)) (.lit 4))
 (.ret (.bool (.tt true)))
 (.ret (.bool (.tt false))))))
 (.br (eq_ xryypgbk22_ (.lit 1))
 (.need xryypgbk23_
 (.need (an_ xryypgbk25_ (an_ (an_ (le_ (.lit 0) (.i2 (.bits .xor .u64) xryypgbk11_ xryypgbk3_)) (le_ (.i2 (.bits .xor .u64) xryypgbk11_ xryypgbk3_) (.lit 18446744073709551615))) (an_ xryypgbk27_ (an_ xryypgbk28_ xryypgbk24_))))
 (.br (eq_ (.iapp 32 (.cons (.tup (.cons (.int .u64 xryypgbk12_) (.cons (.int .u64 (.i2 (.bits .xor .u64) xryypgbk11_ xryypgbk3_)) (.cons (.int .u64 xryypgbk10_) (.cons (.int .u64 xryypgbk9_) (.cons (.int .u64 xryypgbk8_) (.cons (.int .u64 xryypgbk7_) (.cons (.int .u64 xryypgbk6_) (.cons (.int .u64 xryypgbk5_) (.cons (.int .u64 xryypgbk17_) (.cons (.int .u64 xryypgbk16_) (.cons (.int .u64 xryypgbk15_) (.cons (.int .u64 xryypgbk14_) (.cons (.int .u64 xryypgbk21_) (.cons (.int .u64 xryypgbk20_) (.cons (.int .u64 xryypgbk19_) (.cons (.int .u64 xryypgbk18_) .nil))))))))))))))))) .nil)) (.lit 4))
 (.ret (.bool (.tt true)))
 (.ret (.bool (.tt false))))))
 (.br (eq_ xryypgbk22_ (.lit 2))
 (.need xryypgbk23_
 (.need (an_ xryypgbk25_ (an_ xryypgbk26_ (an_ (an_ (le_ (.lit 0) (.i2 (.bits .xor .u64) xryypgbk10_ xryypgbk3_)) (le_ (.i2 (.bits .xor .u64) xryypgbk10_ xryypgbk3_) (.lit 18446744073709551615))) (an_ xryypgbk28_ xryypgbk24_))))
 (.br (eq_ (.iapp 32 (.cons (.tup (.cons (.int .u64 xryypgbk12_) (.cons (.int .u64 xryypgbk11_) (.cons (.int .u64 (.i2 (.bits .xor .u64) xryypgbk10_ xryypgbk3_)) (.cons (.int .u64 xryypgbk9_) (.cons (.int .u64 xryypgbk8_) (.cons (.int .u64 xryypgbk7_) (.cons (.int .u64 xryypgbk6_) (.cons (.int .u64 xryypgbk5_) (.cons (.int .u64 xryypgbk17_) (.cons (.int .u64 xryypgbk16_) (.cons (.int .u64 xryypgbk15_) (.cons (.int .u64 xryypgbk14_) (.cons (.int .u64 xryypgbk21_) (.cons (.int .u64 xryypgbk20_) (.cons (.int .u64 xryypgbk19_) (.cons (.int .u64 xryypgbk18_) .nil))))))))))))))))) .nil)) (.lit 4))
 (.ret (.bool (.tt true)))
 (.ret (.bool (.tt false))))))
 (.br (eq_ xryypgbk22_ (.lit 3))
 (.need xryypgbk23_
 (.need (an_ xryypgbk25_ (an_ xryypgbk26_ (an_ xryypgbk27_ (an_ (an_ (le_ (.lit 0) (.i2 (.bits .xor .u64) xryypgbk9_ xryypgbk3_)) (le_ (.i2 (.bits .xor .u64) xryypgbk9_ xryypgbk3_) (.lit 18446744073709551615))) xryypgbk24_))))
 (.br (eq_ (.iapp 32 (.cons (.tup (.cons (.int .u64 xryypgbk12_) (.cons (.int .u64 xryypgbk11_) (.cons (.int .u64 xryypgbk10_) (.cons (.int .u64 (.i2 (.bits .xor .u64) xryypgbk9_ xryypgbk3_)) (.cons (.int .u64 xryypgbk8_) (.cons (.int .u64 xryypgbk7_) (.cons (.int .u64 xryypgbk6_) (.cons (.int .u64 xryypgbk5_) (.cons (.int .u64 xryypgbk17_) (.cons (.int .u64 xryypgbk16_) (.cons (.int .u64 xryypgbk15_) (.cons (.int .u64 xryypgbk14_) (.cons (.int .u64 xryypgbk21_) (.cons (.int .u64 xryypgbk20_) (.cons (.int .u64 xryypgbk19_) (.cons (.int .u64 xryypgbk18_) .nil))))))))))))))))) .nil)) (.lit 4))
 (.ret (.bool (.tt true)))
 (.ret (.bool (.tt false))))))
 (.br (eq_ xryypgbk22_ (.lit 4))
 (.need xryypgbk23_
 (.need (an_ xryypgbk25_ (an_ xryypgbk26_ (an_ xryypgbk27_ (an_ xryypgbk28_ (an_ (an_ (le_ (.lit 0) (.i2 (.bits .xor .u64) xryypgbk8_ xryypgbk3_)) (le_ (.i2 (.bits .xor .u64) xryypgbk8_ xryypgbk3_) (.lit 18446744073709551615))) (an_ xryypgbk30_ (an_ xryypgbk31_ (an_ xryypgbk32_ xryypgbk2_))))))))
 (.br (eq_ (.iapp 32 (.cons (.tup (.cons (.int .u64 xryypgbk12_) (.cons (.int .u64 xryypgbk11_) (.cons (.int .u64 xryypgbk10_) (.cons (.int .u64 xryypgbk9_) (.cons (.int .u64 (.i2 (.bits .xor .u64) xryypgbk8_ xryypgbk3_)) (.cons (.int .u64 xryypgbk7_) (.cons (.int .u64 xryypgbk6_) (.cons (.int .u64 xryypgbk5_) (.cons (.int .u64 xryypgbk17_) (.cons (.int .u64 xryypgbk16_) (.cons (.int .u64 xryypgbk15_) (.cons (.int .u64 xryypgbk14_) (.cons (.int .u64 xryypgbk21_) (.cons (.int .u64 xryypgbk20_) (.cons (.int .u64 xryypgbk19_) (.cons (.int .u64 xryypgbk18_) .nil))))))))))))))))) .nil)) (.lit 4))
 (.ret (.bool (.tt true)))
 (.ret (.bool (.tt false))))))
 (.br (eq_ xryypgbk22_ (.lit 5))
 (.need xryypgbk23_
 (.need (an_ xryypgbk25_ (an_ xryypgbk26_ (an_ xryypgbk27_ (an_ xryypgbk28_ (an_ xryypgbk29_ (an_ (an_ (le_ (.lit 0) (.i2 (.bits .xor .u64) xryypgbk7_ xryypgbk3_)) (le_ (.i2 (.bits .xor .u64) xryypgbk7_ xryypgbk3_) (.lit 18446744073709551615))) (an_ xryypgbk31_ (an_ xryypgbk32_ xryypgbk2_))))))))
 (.br (eq_ (.iapp 32 (.cons (.tup (.cons (.int .u64 xryypgbk12_) (.cons (.int .u64 xryypgbk11_) (.cons (.int .u64 xryypgbk10_) (.cons (.int .u64 xryypgbk9_) (.cons (.int .u64 xryypgbk8_) (.cons (.int .u64 (.i2 (.bits .xor .u64) xryypgbk7_ xryypgbk3_)) (.cons (.int .u64 xryypgbk6_) (.cons (.int .u64 xryypgbk5_) (.cons (.int .u64 xryypgbk17_) (.cons (.int .u64 xryypgbk16_) (.cons (.int .u64 xryypgbk15_) (.cons (.int .u64 xryypgbk14_) (.cons (.int .u64 xryypgbk21_) (.cons (.int .u64 xryypgbk20_) (.cons (.int .u64 xryypgbk19_) (.cons (.int .u64 xryypgbk18_) .nil))))))))))))))))) .nil)) (.lit 4))
 (.ret (.bool (.tt true)))
 (.ret (.bool (.tt false))))))
 (.br (eq_ xryypgbk22_ (.lit 6))
 (.need xryypgbk23_
 (.need (an_ xryypgbk25_ (an_ xryypgbk26_ (an_ xryypgbk27_ (an_ xryypgbk28_ (an_ xryypgbk29_ (an_ xryypgbk30_ (an_ (an_ (le_ (.lit 0) (.i2 (.bits .xor .u64) xryypgbk6_ xryypgbk3_)) (le_ (.i2 (.bits .xor .u64) xryypgbk6_ xryypgbk3_) (.lit 18446744073709551615))) (an_ xryypgbk32_ xryypgbk2_))))))))
 (.br (eq_ (.iapp 32 (.cons (.tup (.cons (.int .u64 xryypgbk12_) (.cons (.int .u64 xryypgbk11_) (.cons (.int .u64 xryypgbk10_) (.cons (.int .u64 xryypgbk9_) (.cons (.int .u64 xryypgbk8_) (.cons (.int .u64 xryypgbk7_) (.cons (.int .u64 (.i2 (.bits .xor .u64) xryypgbk6_ xryypgbk3_)) (.cons (.int .u64 xryypgbk5_) (.cons (.int .u64 xryypgbk17_) (.cons (.int .u64 xryypgbk16_) (.cons (.int .u64 xryypgbk15_) (.cons (.int .u64 xryypgbk14_) (.cons (.int .u64 xryypgbk21_) (.cons (.int .u64 xryypgbk20_) (.cons (.int .u64 xryypgbk19_) (.cons (.int .u64 xryypgbk18_) .nil))))))))))))))))) .nil)) (.lit 4))
 (.ret (.bool (.tt true)))
 (.ret (.bool (.tt false))))))
 (.br (eq_ xryypgbk22_ (.lit 7))
 (.need xryypgbk23_
 (.need (an_ xryypgbk25_ (an_ xryypgbk26_ (an_ xryypgbk27_ (an_ xryypgbk28_ (an_ xryypgbk29_ (an_ xryypgbk30_ (an_ xryypgbk31_ (an_ (an_ (le_ (.lit 0) (.i2 (.bits .xor .u64) xryypgbk5_ xryypgbk3_)) (le_ (.i2 (.bits .xor .u64) xryypgbk5_ xryypgbk3_) (.lit 18446744073709551615))) xryypgbk2_))))))))
 (.br (eq_ (.iapp 32 (.cons (.tup (.cons (.int .u64 xryypgbk12_) (.cons (.int .u64 xryypgbk11_) (.cons (.int .u64 xryypgbk10_) (.cons (.int .u64 xryypgbk9_) (.cons (.int .u64 xryypgbk8_) (.cons (.int .u64 xryypgbk7_) (.cons (.int .u64 xryypgbk6_) (.cons (.int .u64 (.i2 (.bits .xor .u64) xryypgbk5_ xryypgbk3_)) (.cons (.int .u64 xryypgbk17_) (.cons (.int .u64 xryypgbk16_) (.cons (.int .u64 xryypgbk15_) (.cons (.int .u64 xryypgbk14_) (.cons (.int .u64 xryypgbk21_) (.cons (.int .u64 xryypgbk20_) (.cons (.int .u64 xryypgbk19_) (.cons (.int .u64 xryypgbk18_) .nil))))))))))))))))) .nil)) (.lit 4))
 (.ret (.bool (.tt true)))
 (.ret (.bool (.tt false))))))
 (.br (eq_ xryypgbk22_ (.lit 8))
 (.need xryypgbk23_
 (.need (an_ xryypgbk25_ (an_ xryypgbk26_ (an_ xryypgbk27_ (an_ xryypgbk28_ (an_ xryypgbk29_ (an_ xryypgbk30_ (an_ xryypgbk31_ (an_ xryypgbk32_ (an_ (an_ (le_ (.lit 0) (.i2 (.bits .xor .u64) xryypgbk17_ xryypgbk3_)) (le_ (.i2 (.bits .xor .u64) xryypgbk17_ xryypgbk3_) (.lit 18446744073709551615))) (an_ xryypgbk34_ (an_ xryypgbk35_ (an_ xryypgbk36_ xryypgbk13_))))))))))))
 (.br (eq_ (.iapp 32 (.cons (.tup (.cons (.int .u64 xryypgbk12_) (.cons (.int .u64 xryypgbk11_) (.cons (.int .u64 xryypgbk10_) (.cons (.int .u64 xryypgbk9_) (.cons (.int .u64 xryypgbk8_) (.cons (.int .u64 xryypgbk7_) (.cons (.int .u64 xryypgbk6_) (.cons (.int .u64 xryypgbk5_) (.cons (.int .u64 (.i2 (.bits .xor .u64) xryypgbk17_ xryypgbk3_)) (.cons (.int .u64 xryypgbk16_) (.cons (.int .u64 xryypgbk15_) (.cons (.int .u64 xryypgbk14_) (.cons (.int .u64 xryypgbk21_) (.cons (.int .u64 xryypgbk20_) (.cons (.int .u64 xryypgbk19_) (.cons (.int .u64 xryypgbk18_) .nil))))))))))))))))) .nil)) (.lit 4))
 (.ret (.bool (.tt true)))
 (.ret (.bool (.tt false))))))
 (.br (eq_ xryypgbk22_ (.lit 9))
 (.need xryypgbk23_
 (.need (an_ xryypgbk25_ (an_ xryypgbk26_ (an_ xryypgbk27_ (an_ xryypgbk28_ (an_ xryypgbk29_ (an_ xryypgbk30_ (an_ xryypgbk31_ (an_ xryypgbk32_ (an_ xryypgbk33_ (an_ (an_ (le_ (.lit 0) (.i2 (.bits .xor .u64) xryypgbk16_ xryypgbk3_)) (le_ (.i2 (.bits .xor .u64) xryypgbk16_ xryypgbk3_) (.lit 18446744073709551615))) (an_ xryypgbk35_ (an_ xryypgbk36_ xryypgbk13_))))))))))))
 (.br (eq_ (.iapp 32 (.cons (.tup (.cons (.int .u64 xryypgbk12_) (.cons (.int .u64 xryypgbk11_) (.cons (.int .u64 xryypgbk10_) (.cons (.int .u64 xryypgbk9_) (.cons (.int .u64 xryypgbk8_) (.cons (.int .u64 xryypgbk7_) (.cons (.int .u64 xryypgbk6_) (.cons (.int .u64 xryypgbk5_) (.cons (.int .u64 xryypgbk17_) (.cons (.int .u64 (.i2 (.bits .xor .u64) xryypgbk16_ xryypgbk3_)) (.cons (.int .u64 xryypgbk15_) (.cons (.int .u64 xryypgbk14_) (.cons (.int .u64 xryypgbk21_) (.cons (.int .u64 xryypgbk20_) (.cons (.int .u64 xryypgbk19_) (.cons (.int .u64 xryypgbk18_) .nil))))))))))))))))) .nil)) (.lit 4))
 (.ret (.bool (.tt true)))
 (.ret (.bool (.tt false))))))
 (.br (eq_ xryypgbk22_ (.lit 10))
 (.need xryypgbk23_
 (.need (an_ xryypgbk25_ (an_ xryypgbk26_ (an_ xryypgbk27_ (an_ xryypgbk28_ (an_ xryypgbk29_ (an_ xryypgbk30_ (an_ xryypgbk31_ (an_ xryypgbk32_ (an_ xryypgbk33_ (an_ xryypgbk34_ (an_ (an_ (le_ (.lit 0) (.i2 (.bits .xor .u64) xryypgbk15_ xryypgbk3_)) (le_ (.i2 (.bits .xor .u64) xryypgbk15_ xryypgbk3_) (.lit 18446744073709551615))) (an_ xryypgbk36_ xryypgbk13_))))))))))))
 (.br (eq_ (.iapp 32 (.cons (.tup (.cons (.int .u64 xryypgbk12_) (.cons (.int .u64 xryypgbk11_) (.cons (.int .u64 xryypgbk10_) (.cons (.int .u64 xryypgbk9_) (.cons (.int .u64 xryypgbk8_) (.cons (.int .u64 xryypgbk7_) (.cons (.int .u64 xryypgbk6_) (.cons (.int .u64 xryypgbk5_) (.cons (.int .u64 xryypgbk17_) (.cons (.int .u64 xryypgbk16_) (.cons (.int .u64 (.i2 (.bits .xor .u64) xryypgbk15_ xryypgbk3_)) (.cons (.int .u64 xryypgbk14_) (.cons (.int .u64 xryypgbk21_) (.cons (.int .u64 xryypgbk20_) (.cons (.int .u64 xryypgbk19_) (.cons (.int .u64 xryypgbk18_) .nil))))))))))))))))) .nil)) (.lit 4))
 (.ret (.bool (.tt true)))
 (.ret (.bool (.tt false))))))
 (.br (eq_ xryypgbk22_ (.lit 11))
 (.need xryypgbk23_
 (.need (an_ xryypgbk25_ (an_ xryypgbk26_ (an_ xryypgbk27_ (an_ xryypgbk28_ (an_ xryypgbk29_ (an_ xryypgbk30_ (an_ xryypgbk31_ (an_ xryypgbk32_ (an_ xryypgbk33_ (an_ xryypgbk34_ (an_ xryypgbk35_ (an_ (an_ (le_ (.lit 0) (.i2 (.bits .xor .u64) xryypgbk14_ xryypgbk3_)) (le_ (.i2 (.bits .xor .u64) xryypgbk14_ xryypgbk3_) (.lit 18446744073709551615))) xryypgbk13_))))))))))))
 (.br (eq_ (.iapp 32 (.cons (.tup (.cons (.int .u64 xryypgbk12_) (.cons (.int .u64 xryypgbk11_) (.cons (.int .u64 xryypgbk10_) (.cons (.int .u64 xryypgbk9_) (.cons (.int .u64 xryypgbk8_) (.cons (.int .u64 xryypgbk7_) (.cons (.int .u64 xryypgbk6_) (.cons (.int .u64 xryypgbk5_) (.cons (.int .u64 xryypgbk17_) (.cons (.int .u64 xryypgbk16_) (.cons (.int .u64 xryypgbk15_) (.cons (.int .u64 (.i2 (.bits .xor .u64) xryypgbk14_ xryypgbk3_)) (.cons (.int .u64 xryypgbk21_) (.cons (.int .u64 xryypgbk20_) (.cons (.int .u64 xryypgbk19_) (.cons (.int .u64 xryypgbk18_) .nil))))))))))))))))) .nil)) (.lit 4))
 (.ret (.bool (.tt true)))
 (.ret (.bool (.tt false))))))
 (.br (eq_ xryypgbk22_ (.lit 12))
 (.need xryypgbk23_
 (.need (an_ xryypgbk25_ (an_ xryypgbk26_ (an_ xryypgbk27_ (an_ xryypgbk28_ (an_ xryypgbk29_ (an_ xryypgbk30_ (an_ xryypgbk31_ (an_ xryypgbk32_ (an_ xryypgbk33_ (an_ xryypgbk34_ (an_ xryypgbk35_ (an_ xryypgbk36_ (an_ (an_ (le_ (.lit 0) (.i2 (.bits .xor .u64) xryypgbk21_ xryypgbk3_)) (le_ (.i2 (.bits .xor .u64) xryypgbk21_ xryypgbk3_) (.lit 18446744073709551615))) (an_ (an_ (le_ (.lit 0) xryypgbk20_) (le_ xryypgbk20_ (.lit 18446744073709551615))) (an_ (an_ (le_ (.lit 0) xryypgbk19_) (le_ xryypgbk19_ (.lit 18446744073709551615))) (an_ (le_ (.lit 0) xryypgbk18_) (le_ xryypgbk18_ (.lit 18446744073709551615))))))))))))))))))
 (.br (eq_ (.iapp 32 (.cons (.tup (.cons (.int .u64 xryypgbk12_) (.cons (.int .u64 xryypgbk11_) (.cons (.int .u64 xryypgbk10_) (.cons (.int .u64 xryypgbk9_) (.cons (.int .u64 xryypgbk8_) (.cons (.int .u64 xryypgbk7_) (.cons (.int .u64 xryypgbk6_) (.cons (.int .u64 xryypgbk5_) (.cons (.int .u64 xryypgbk17_) (.cons (.int .u64 xryypgbk16_) (.cons (.int .u64 xryypgbk15_) (.cons (.int .u64 xryypgbk14_) (.cons (.int .u64 (.i2 (.bits .xor .u64) xryypgbk21_ xryypgbk3_)) (.cons (.int .u64 xryypgbk20_) (.cons (.int .u64 xryypgbk19_) (.cons (.int .u64 xryypgbk18_) .nil))))))))))))))))) .nil)) (.lit 4))
 (.ret (.bool (.tt true)))
 (.ret (.bool (.tt false))))))
 (.br (eq_ xryypgbk22_ (.lit 13))
 (.need xryypgbk23_
 (.need (an_ xryypgbk25_ (an_ xryypgbk26_ (an_ xryypgbk27_ (an_ xryypgbk28_ (an_ xryypgbk29_ (an_ xryypgbk30_ (an_ xryypgbk31_ (an_ xryypgbk32_ (an_ xryypgbk33_ (an_ xryypgbk34_ (an_ xryypgbk35_ (an_ xryypgbk36_ (an_ (an_ (le_ (.lit 0) xryypgbk21_) (le_ xryypgbk21_ (.lit 18446744073709551615))) (an_ (an_ (le_ (.lit 0) (.i2 (.bits .xor .u64) xryypgbk20_ xryypgbk3_)) (le_ (.i2 (.bits .xor .u64) xryypgbk20_ xryypgbk3_) (.lit 18446744073709551615))) (an_ (an_ (le_ (.lit 0) xryypgbk19_) (le_ xryypgbk19_ (.lit 18446744073709551615))) (an_ (le_ (.lit 0) xryypgbk18_) (le_ xryypgbk18_ (.lit 18446744073709551615))))))))))))))))))
 (.br (eq_ (.iapp 32 (.cons (.tup (.cons (.int .u64 xryypgbk12_) (.cons (.int .u64 xryypgbk11_) (.cons (.int .u64 xryypgbk10_) (.cons (.int .u64 xryypgbk9_) (.cons (.int .u64 xryypgbk8_) (.cons (.int .u64 xryypgbk7_) (.cons (.int .u64 xryypgbk6_) (.cons (.int .u64 xryypgbk5_) (.cons (.int .u64 xryypgbk17_) (.cons (.int .u64 xryypgbk16_) (.cons (.int .u64 xryypgbk15_) (.cons (.int .u64 xryypgbk14_) (.cons (.int .u64 xryypgbk21_) (.cons (.int .u64 (.i2 (.bits .xor .u64) xryypgbk20_ xryypgbk3_)) (.cons (.int .u64 xryypgbk19_) (.cons (.int .u64 xryypgbk18_) .nil))))))))))))))))) .nil)) (.lit 4))
 (.ret (.bool (.tt true)))
 (.ret (.bool (.tt false))))))
 (.br (eq_ xryypgbk22_ (.lit 14))
 (.need xryypgbk23_
 (.need (an_ xryypgbk25_ (an_ xryypgbk26_ (an_ xryypgbk27_ (an_ xryypgbk28_ (an_ xryypgbk29_ (an_ xryypgbk30_ (an_ xryypgbk31_ (an_ xryypgbk32_ (an_ xryypgbk33_ (an_ xryypgbk34_ (an_ xryypgbk35_ (an_ xryypgbk36_ (an_ (an_ (le_ (.lit 0) xryypgbk21_) (le_ xryypgbk21_ (.lit 18446744073709551615))) (an_ (an_ (le_ (.lit 0) xryypgbk20_) (le_ xryypgbk20_ (.lit 18446744073709551615))) (an_ (an_ (le_ (.lit 0) (.i2 (.bits .xor .u64) xryypgbk19_ xryypgbk3_)) (le_ (.i2 (.bits .xor .u64) xryypgbk19_ xryypgbk3_) (.lit 18446744073709551615))) (an_ (le_ (.lit 0) xryypgbk18_) (le_ xryypgbk18_ (.lit 18446744073709551615))))))))))))))))))
 (.br (eq_ (.iapp 32 (.cons (.tup (.cons (.int .u64 xryypgbk12_) (.cons (.int .u64 xryypgbk11_) (.cons (.int .u64 xryypgbk10_) (.cons (.int .u64 xryypgbk9_) (.cons (.int .u64 xryypgbk8_) (.cons (.int .u64 xryypgbk7_) (.cons (.int .u64 xryypgbk6_) (.cons (.int .u64 xryypgbk5_) (.cons (.int .u64 xryypgbk17_) (.cons (.int .u64 xryypgbk16_) (.cons (.int .u64 xryypgbk15_) (.cons (.int .u64 xryypgbk14_) (.cons (.int .u64 xryypgbk21_) (.cons (.int .u64 xryypgbk20_) (.cons (.int .u64 (.i2 (.bits .xor .u64) xryypgbk19_ xryypgbk3_)) (.cons (.int .u64 xryypgbk18_) .nil))))))))))))))))) .nil)) (.lit 4))
 (.ret (.bool (.tt true)))
 (.ret (.bool (.tt false))))))
 (.need (eq_ xryypgbk22_ (.lit 15))
 (.need xryypgbk23_
 (.need (eq_ xryypgbk22_ (.lit 15))
 (.need (an_ xryypgbk25_ (an_ xryypgbk26_ (an_ xryypgbk27_ (an_ xryypgbk28_ (an_ xryypgbk29_ (an_ xryypgbk30_ (an_ xryypgbk31_ (an_ xryypgbk32_ (an_ xryypgbk33_ (an_ xryypgbk34_ (an_ xryypgbk35_ (an_ xryypgbk36_ (an_ (an_ (le_ (.lit 0) xryypgbk21_) (le_ xryypgbk21_ (.lit 18446744073709551615))) (an_ (an_ (le_ (.lit 0) xryypgbk20_) (le_ xryypgbk20_ (.lit 18446744073709551615))) (an_ (an_ (le_ (.lit 0) xryypgbk19_) (le_ xryypgbk19_ (.lit 18446744073709551615))) (an_ (le_ (.lit 0) (.i2 (.bits .xor .u64) xryypgbk18_ xryypgbk3_)) (le_ (.i2 (.bits .xor .u64) xryypgbk18_ xryypgbk3_) (.lit 18446744073709551615))))))))))))))))))
 (.br (eq_ (.iapp 32 (.cons (.tup (.cons (.int .u64 xryypgbk12_) (.cons (.int .u64 xryypgbk11_) (.cons (.int .u64 xryypgbk10_) (.cons (.int .u64 xryypgbk9_) (.cons (.int .u64 xryypgbk8_) (.cons (.int .u64 xryypgbk7_) (.cons (.int .u64 xryypgbk6_) (.cons (.int .u64 xryypgbk5_) (.cons (.int .u64 xryypgbk17_) (.cons (.int .u64 xryypgbk16_) (.cons (.int .u64 xryypgbk15_) (.cons (.int .u64 xryypgbk14_) (.cons (.int .u64 xryypgbk21_) (.cons (.int .u64 xryypgbk20_) (.cons (.int .u64 xryypgbk19_) (.cons (.int .u64 (.i2 (.bits .xor .u64) xryypgbk18_ xryypgbk3_)) .nil))))))))))))))))) .nil)) (.lit 4))
 (.ret (.bool (.tt true)))
 (.ret (.bool (.tt false)))))))))))))))))))))))))))))))))))
abbrev yyc_wBackV : Con := ⟨4, [xryypgbk38_, (.int .u64 (.var 10)), (.int .i64 (.var 11))], (an_ xryypgbk39_ (eq_ (.iapp 24 (.cons xryypgbk0_ .nil)) (.lit 0))), (.bool (.tt true)), ⟨12, 0, 0, 0⟩, none⟩
theorem wBackV_w : walkQ Tryz.prog 111 ⟨[zyc_give19, zuc_pcheck, zuc_lay, yzc_readL, yzc_read, zyc_penc, zyc_pdec, zyc_num, za9c_sure19], syG, [], [], []⟩ [] .v yyc_wBackV yyc_wBackV.n 3000 (pcOf yyc_wBackV.cnd) = some wBackV_tree := by kernel_rfl
set_option maxHeartbeats 8000000 in
theorem wBackV_h (pe pb pt pr gm gs qm qs pp pc sq bt : Int) : Hyp_ yyc_wBackV wBackV_tree (yyE [pe, pb, pt, pr, gm, gs, qm, qs, pp, pc, sq, bt] [] [] []) := by
 intro hc hty
 simp only [yyc_wBackV, Sy.holds, yyE, denV, denI, denB, denL, I2.den, VOp.den, List.getD_cons_zero, List.getD_cons_succ, Cst.den, syso, syse, syio, sybo, yyi_pge, B2.ofInts, B2.denI, B2.denB, if_true, Bool.false_eq_true, if_false, Nat.div_one, Nat.mul_one, Nat.add_zero] at hc
 simp only [yyc_wBackV, patsTyp, patTyp, patTypL, yyE, denV, denL, List.getD_cons_zero, List.getD_cons_succ, and_true, true_and] at hty
 unfold wBackV_tree
 simp only [yyc_wBackV, Tree.holds, Sy.holds, yyE, denV, denI, denB, denL, I2.den, VOp.den, List.getD_cons_zero, List.getD_cons_succ, Cst.den, syso, syse, syio, sybo, yyi_lw, yyi_pce, yyi_pcn, yyi_rde, yyi_od, yyi_gz, yyb_okr, yyb_pm, yyv_pkv, B2.ofInts, B2.denI, B2.denB, if_true, Bool.false_eq_true, if_false, Nat.div_one, Nat.mul_one, Nat.add_zero]
 have hn := hc.2
 have hb : pgB (Sy.rows (pgT pe pb pt pr gm gs qm qs pp pc)) = true := by (rcases pg_or (Sy.rows (pgT pe pb pt pr gm gs qm qs pp pc)) with ⟨_, h⟩ | ⟨h, _⟩; exact absurd (h.symm.trans hn) (by decide); exact h)
 have hp : pgP pe pb pt pr gm gs qm qs pp pc := of_decide_eq_true hb
 have he : pgL (Sy.rows (pgT pe pb pt pr gm gs qm qs pp pc)) = 0 := pgE_y hp
 obtain ⟨a1, a2, a3, a4, a5, a6, a7, a8, f1, f2, a11, a12, a13, a14⟩ := id hp
 unfold fmP at f1 f2
 have rt := u6_rng (x := pt) (by omega) (by omega)
 have g_pt := u6_back (x := pt) (by omega) (by omega)
 have q0 : sq.tdiv 2 = sq / 2 := Int.tdiv_eq_ediv_of_nonneg (by omega)
 have q1 : IntKind.wrap .u64 (sq / 2) = sq / 2 := by have := wr_u64 (sq / 2); omega
 have q2 : IntKind.wrap .u64 (2 * (sq / 2)) = 2 * (sq / 2) := by have := wr_u64 (2 * (sq / 2)); omega
 have q3 : IntKind.wrap .u64 (2 * (sq / 2) + 1) = 2 * (sq / 2) + 1 := by have := wr_u64 (2 * (sq / 2) + 1); omega
 simp only [q0, q1, q2, q3]
 obtain ⟨Q, hQ⟩ : ∃ x, 2 * (sq / 2) = x := ⟨_, rfl⟩
 simp only [hQ]
 have hQr : 0 ≤ Q ∧ Q ≤ 18446744073709551614 ∧ Q % 2 = 0 := by omega
 clear q0 q1 q2 q3
 have o0 : odE Q = 0 := by have := od_spec Q; omega
 have o1 : odE (Q + 1) = 15 := by have := od_spec (Q + 1); omega
 simp only [o0, o1, gz_y rfl, gz_n (show ¬ (15 : Int) = 0 by decide)]
 obtain ⟨pk, k0, k1, k2, k3, k4, k5, k6, k7, k8, k9⟩ := pk_back pe pb pt pr gm gs qm qs pp pc hc.1.1.1 hc.1.1.2.1 hc.1.1.2.2.1 hc.1.1.2.2.2.1 hc.1.1.2.2.2.2.1 hc.1.1.2.2.2.2.2.1 hc.1.1.2.2.2.2.2.2.1 hc.1.1.2.2.2.2.2.2.2.1 hc.1.1.2.2.2.2.2.2.2.2.1 hc.1.1.2.2.2.2.2.2.2.2.2 hp
 simp only [pk, k0, k1, k2, k3, k4, k5, k6, k7, k8, k9]
 clear pk k0 k1 k2 k3 k4 k5 k6 k7 k8 k9
 have b0 := wr_u64 bt
 have n0 : (IntKind.wrap .u64 bt).tmod 960 = IntKind.wrap .u64 bt % 960 := Int.tmod_eq_emod_of_nonneg (by omega)
 simp only [n0]
 obtain ⟨B, hB⟩ : ∃ x, IntKind.wrap .u64 bt % 960 = x := ⟨_, rfl⟩
 simp only [hB]
 have hBr : 0 ≤ B ∧ B < 960 := by omega
 clear b0 n0 hB
 have n1 : IntKind.wrap .i64 B = B := by have := wr_i64 B; omega
 have n2 : B.tdiv 64 = B / 64 := Int.tdiv_eq_ediv_of_nonneg hBr.1
 have n3 : IntKind.wrap .i64 (B / 64) = B / 64 := by have := wr_i64 (B / 64); omega
 have n4 : IntKind.wrap .i64 (1 + B / 64) = 1 + B / 64 := by have := wr_i64 (1 + B / 64); omega
 have n5 : B.tmod 64 = B % 64 := Int.tmod_eq_emod_of_nonneg hBr.1
 have n6 : IntKind.wrap .u64 (B % 64) = B % 64 := by have := wr_u64 (B % 64); omega
 have n7 : IntKind.wrap .i64 (B % 64) = B % 64 := by have := wr_i64 (B % 64); omega
 simp only [n1, n2, n3, n4, n5, n6, n7]
 clear n1 n2 n3 n4 n5 n6 n7
 simp only [wd0, wd1, wd2, wd3, wd4, wd5, wd6, wd7, wd8, wd9, wd10, wd11, wd12, wd13, wd14, wd15]
 have pko := pk_ok pe pb pt pr gm gs qm qs pp pc hp
 simp only [pgT] at pko
 have hM64 : (B % 64).toNat < 64 := by omega
 have hS := sh_pow hM64
 obtain ⟨S, hSS⟩ : ∃ x, IntKind.wrap .u64 (1 * 2 ^ Min.min (B % 64).toNat (IntKind.bits .u64)) = x := ⟨_, rfl⟩
 simp only [hSS]
 rw [hSS] at hS
 have xr : ∀ x, 0 ≤ Sy.bitsV .xor .u64 x S ∧ Sy.bitsV .xor .u64 x S ≤ 18446744073709551615 := fun x => xo_rng x S
 have x0 := xr (pe)
 have x1 := xr (pb)
 have x2 := xr (u6 pt)
 have x3 := xr (pr)
 have x4 := xr (gm)
 have x5 := xr (gs)
 have x6 := xr (qm)
 have x7 := xr (qs)
 have x8 := xr (pp)
 have x9 := xr (pc)
 have x10 := xr (0)
 have xs := xr (wsI [.int .u64 pe, .int .u64 pb, .int .u64 (u6 pt), .int .u64 pr, .int .u64 gm, .int .u64 gs, .int .u64 qm, .int .u64 qs, .int .u64 pp, .int .u64 pc, .int .u64 0, .int .u64 0, .int .u64 0, .int .u64 0])
 have hws : 0 ≤ wsI [.int .u64 pe, .int .u64 pb, .int .u64 (u6 pt), .int .u64 pr, .int .u64 gm, .int .u64 gs, .int .u64 qm, .int .u64 qs, .int .u64 pp, .int .u64 pc, .int .u64 0, .int .u64 0, .int .u64 0, .int .u64 0] ∧ wsI [.int .u64 pe, .int .u64 pb, .int .u64 (u6 pt), .int .u64 pr, .int .u64 gm, .int .u64 gs, .int .u64 qm, .int .u64 qs, .int .u64 pp, .int .u64 pc, .int .u64 0, .int .u64 0, .int .u64 0, .int .u64 0] < 4294967296 := crc_rng _
 have hq2 : ¬ Q % 2 = 1 := by omega
 have r1 := (rd_4 Q (Sy.bitsV .xor .u64 (pe) S) pb (u6 pt) pr gm gs qm qs pp pc 0 0 0 0 (wsI [.int .u64 pe, .int .u64 pb, .int .u64 (u6 pt), .int .u64 pr, .int .u64 gm, .int .u64 gs, .int .u64 qm, .int .u64 qs, .int .u64 pp, .int .u64 pc, .int .u64 0, .int .u64 0, .int .u64 0, .int .u64 0]) hq2 (ws_chg [] [.int .u64 pb, .int .u64 (u6 pt), .int .u64 pr, .int .u64 gm, .int .u64 gs, .int .u64 qm, .int .u64 qs, .int .u64 pp, .int .u64 pc, .int .u64 0, .int .u64 0, .int .u64 0, .int .u64 0] (by omega) (by omega) hM64 hS)).1
 have r2 := (rd_4 Q pe (Sy.bitsV .xor .u64 (pb) S) (u6 pt) pr gm gs qm qs pp pc 0 0 0 0 (wsI [.int .u64 pe, .int .u64 pb, .int .u64 (u6 pt), .int .u64 pr, .int .u64 gm, .int .u64 gs, .int .u64 qm, .int .u64 qs, .int .u64 pp, .int .u64 pc, .int .u64 0, .int .u64 0, .int .u64 0, .int .u64 0]) hq2 (ws_chg [.int .u64 pe] [.int .u64 (u6 pt), .int .u64 pr, .int .u64 gm, .int .u64 gs, .int .u64 qm, .int .u64 qs, .int .u64 pp, .int .u64 pc, .int .u64 0, .int .u64 0, .int .u64 0, .int .u64 0] (by omega) (by omega) hM64 hS)).1
 have r3 := (rd_4 Q pe pb (Sy.bitsV .xor .u64 (u6 pt) S) pr gm gs qm qs pp pc 0 0 0 0 (wsI [.int .u64 pe, .int .u64 pb, .int .u64 (u6 pt), .int .u64 pr, .int .u64 gm, .int .u64 gs, .int .u64 qm, .int .u64 qs, .int .u64 pp, .int .u64 pc, .int .u64 0, .int .u64 0, .int .u64 0, .int .u64 0]) hq2 (ws_chg [.int .u64 pe, .int .u64 pb] [.int .u64 pr, .int .u64 gm, .int .u64 gs, .int .u64 qm, .int .u64 qs, .int .u64 pp, .int .u64 pc, .int .u64 0, .int .u64 0, .int .u64 0, .int .u64 0] (by omega) (by omega) hM64 hS)).1
 have r4 := (rd_4 Q pe pb (u6 pt) (Sy.bitsV .xor .u64 (pr) S) gm gs qm qs pp pc 0 0 0 0 (wsI [.int .u64 pe, .int .u64 pb, .int .u64 (u6 pt), .int .u64 pr, .int .u64 gm, .int .u64 gs, .int .u64 qm, .int .u64 qs, .int .u64 pp, .int .u64 pc, .int .u64 0, .int .u64 0, .int .u64 0, .int .u64 0]) hq2 (ws_chg [.int .u64 pe, .int .u64 pb, .int .u64 (u6 pt)] [.int .u64 gm, .int .u64 gs, .int .u64 qm, .int .u64 qs, .int .u64 pp, .int .u64 pc, .int .u64 0, .int .u64 0, .int .u64 0, .int .u64 0] (by omega) (by omega) hM64 hS)).1
 have r5 := (rd_4 Q pe pb (u6 pt) pr (Sy.bitsV .xor .u64 (gm) S) gs qm qs pp pc 0 0 0 0 (wsI [.int .u64 pe, .int .u64 pb, .int .u64 (u6 pt), .int .u64 pr, .int .u64 gm, .int .u64 gs, .int .u64 qm, .int .u64 qs, .int .u64 pp, .int .u64 pc, .int .u64 0, .int .u64 0, .int .u64 0, .int .u64 0]) hq2 (ws_chg [.int .u64 pe, .int .u64 pb, .int .u64 (u6 pt), .int .u64 pr] [.int .u64 gs, .int .u64 qm, .int .u64 qs, .int .u64 pp, .int .u64 pc, .int .u64 0, .int .u64 0, .int .u64 0, .int .u64 0] (by omega) (by omega) hM64 hS)).1
 have r6 := (rd_4 Q pe pb (u6 pt) pr gm (Sy.bitsV .xor .u64 (gs) S) qm qs pp pc 0 0 0 0 (wsI [.int .u64 pe, .int .u64 pb, .int .u64 (u6 pt), .int .u64 pr, .int .u64 gm, .int .u64 gs, .int .u64 qm, .int .u64 qs, .int .u64 pp, .int .u64 pc, .int .u64 0, .int .u64 0, .int .u64 0, .int .u64 0]) hq2 (ws_chg [.int .u64 pe, .int .u64 pb, .int .u64 (u6 pt), .int .u64 pr, .int .u64 gm] [.int .u64 qm, .int .u64 qs, .int .u64 pp, .int .u64 pc, .int .u64 0, .int .u64 0, .int .u64 0, .int .u64 0] (by omega) (by omega) hM64 hS)).1
 have r7 := (rd_4 Q pe pb (u6 pt) pr gm gs (Sy.bitsV .xor .u64 (qm) S) qs pp pc 0 0 0 0 (wsI [.int .u64 pe, .int .u64 pb, .int .u64 (u6 pt), .int .u64 pr, .int .u64 gm, .int .u64 gs, .int .u64 qm, .int .u64 qs, .int .u64 pp, .int .u64 pc, .int .u64 0, .int .u64 0, .int .u64 0, .int .u64 0]) hq2 (ws_chg [.int .u64 pe, .int .u64 pb, .int .u64 (u6 pt), .int .u64 pr, .int .u64 gm, .int .u64 gs] [.int .u64 qs, .int .u64 pp, .int .u64 pc, .int .u64 0, .int .u64 0, .int .u64 0, .int .u64 0] (by omega) (by omega) hM64 hS)).1
 have r8 := (rd_4 Q pe pb (u6 pt) pr gm gs qm (Sy.bitsV .xor .u64 (qs) S) pp pc 0 0 0 0 (wsI [.int .u64 pe, .int .u64 pb, .int .u64 (u6 pt), .int .u64 pr, .int .u64 gm, .int .u64 gs, .int .u64 qm, .int .u64 qs, .int .u64 pp, .int .u64 pc, .int .u64 0, .int .u64 0, .int .u64 0, .int .u64 0]) hq2 (ws_chg [.int .u64 pe, .int .u64 pb, .int .u64 (u6 pt), .int .u64 pr, .int .u64 gm, .int .u64 gs, .int .u64 qm] [.int .u64 pp, .int .u64 pc, .int .u64 0, .int .u64 0, .int .u64 0, .int .u64 0] (by omega) (by omega) hM64 hS)).1
 have r9 := (rd_4 Q pe pb (u6 pt) pr gm gs qm qs (Sy.bitsV .xor .u64 (pp) S) pc 0 0 0 0 (wsI [.int .u64 pe, .int .u64 pb, .int .u64 (u6 pt), .int .u64 pr, .int .u64 gm, .int .u64 gs, .int .u64 qm, .int .u64 qs, .int .u64 pp, .int .u64 pc, .int .u64 0, .int .u64 0, .int .u64 0, .int .u64 0]) hq2 (ws_chg [.int .u64 pe, .int .u64 pb, .int .u64 (u6 pt), .int .u64 pr, .int .u64 gm, .int .u64 gs, .int .u64 qm, .int .u64 qs] [.int .u64 pc, .int .u64 0, .int .u64 0, .int .u64 0, .int .u64 0] (by omega) (by omega) hM64 hS)).1
 have r10 := (rd_4 Q pe pb (u6 pt) pr gm gs qm qs pp (Sy.bitsV .xor .u64 (pc) S) 0 0 0 0 (wsI [.int .u64 pe, .int .u64 pb, .int .u64 (u6 pt), .int .u64 pr, .int .u64 gm, .int .u64 gs, .int .u64 qm, .int .u64 qs, .int .u64 pp, .int .u64 pc, .int .u64 0, .int .u64 0, .int .u64 0, .int .u64 0]) hq2 (ws_chg [.int .u64 pe, .int .u64 pb, .int .u64 (u6 pt), .int .u64 pr, .int .u64 gm, .int .u64 gs, .int .u64 qm, .int .u64 qs, .int .u64 pp] [.int .u64 0, .int .u64 0, .int .u64 0, .int .u64 0] (by omega) (by omega) hM64 hS)).1
 have r11 := (rd_4 Q pe pb (u6 pt) pr gm gs qm qs pp pc (Sy.bitsV .xor .u64 (0) S) 0 0 0 (wsI [.int .u64 pe, .int .u64 pb, .int .u64 (u6 pt), .int .u64 pr, .int .u64 gm, .int .u64 gs, .int .u64 qm, .int .u64 qs, .int .u64 pp, .int .u64 pc, .int .u64 0, .int .u64 0, .int .u64 0, .int .u64 0]) hq2 (ws_chg [.int .u64 pe, .int .u64 pb, .int .u64 (u6 pt), .int .u64 pr, .int .u64 gm, .int .u64 gs, .int .u64 qm, .int .u64 qs, .int .u64 pp, .int .u64 pc] [.int .u64 0, .int .u64 0, .int .u64 0] (by omega) (by omega) hM64 hS)).1
 have r12 := (rd_4 Q pe pb (u6 pt) pr gm gs qm qs pp pc 0 (Sy.bitsV .xor .u64 (0) S) 0 0 (wsI [.int .u64 pe, .int .u64 pb, .int .u64 (u6 pt), .int .u64 pr, .int .u64 gm, .int .u64 gs, .int .u64 qm, .int .u64 qs, .int .u64 pp, .int .u64 pc, .int .u64 0, .int .u64 0, .int .u64 0, .int .u64 0]) hq2 (ws_chg [.int .u64 pe, .int .u64 pb, .int .u64 (u6 pt), .int .u64 pr, .int .u64 gm, .int .u64 gs, .int .u64 qm, .int .u64 qs, .int .u64 pp, .int .u64 pc, .int .u64 0] [.int .u64 0, .int .u64 0] (by omega) (by omega) hM64 hS)).1
 have r13 := (rd_4 Q pe pb (u6 pt) pr gm gs qm qs pp pc 0 0 (Sy.bitsV .xor .u64 (0) S) 0 (wsI [.int .u64 pe, .int .u64 pb, .int .u64 (u6 pt), .int .u64 pr, .int .u64 gm, .int .u64 gs, .int .u64 qm, .int .u64 qs, .int .u64 pp, .int .u64 pc, .int .u64 0, .int .u64 0, .int .u64 0, .int .u64 0]) hq2 (ws_chg [.int .u64 pe, .int .u64 pb, .int .u64 (u6 pt), .int .u64 pr, .int .u64 gm, .int .u64 gs, .int .u64 qm, .int .u64 qs, .int .u64 pp, .int .u64 pc, .int .u64 0, .int .u64 0] [.int .u64 0] (by omega) (by omega) hM64 hS)).1
 have r14 := (rd_4 Q pe pb (u6 pt) pr gm gs qm qs pp pc 0 0 0 (Sy.bitsV .xor .u64 (0) S) (wsI [.int .u64 pe, .int .u64 pb, .int .u64 (u6 pt), .int .u64 pr, .int .u64 gm, .int .u64 gs, .int .u64 qm, .int .u64 qs, .int .u64 pp, .int .u64 pc, .int .u64 0, .int .u64 0, .int .u64 0, .int .u64 0]) hq2 (ws_chg [.int .u64 pe, .int .u64 pb, .int .u64 (u6 pt), .int .u64 pr, .int .u64 gm, .int .u64 gs, .int .u64 qm, .int .u64 qs, .int .u64 pp, .int .u64 pc, .int .u64 0, .int .u64 0, .int .u64 0] [] (by omega) (by omega) hM64 hS)).1
 have r15 := (rd_4 Q pe pb (u6 pt) pr gm gs qm qs pp pc 0 0 0 0 (Sy.bitsV .xor .u64 (wsI [.int .u64 pe, .int .u64 pb, .int .u64 (u6 pt), .int .u64 pr, .int .u64 gm, .int .u64 gs, .int .u64 qm, .int .u64 qs, .int .u64 pp, .int .u64 pc, .int .u64 0, .int .u64 0, .int .u64 0, .int .u64 0]) S) hq2 (w_chg (w := wsI [.int .u64 pe, .int .u64 pb, .int .u64 (u6 pt), .int .u64 pr, .int .u64 gm, .int .u64 gs, .int .u64 qm, .int .u64 qs, .int .u64 pp, .int .u64 pc, .int .u64 0, .int .u64 0, .int .u64 0, .int .u64 0]) (by omega) (by omega) hM64 hS)).1
 refine ⟨?_, fun h0 => ?_⟩
 refine ?a0; rotate_left
 refine ⟨?_, fun h1 => ?_⟩
 refine ?a1; rotate_left
 refine ⟨?_, fun h2 => ?_⟩
 refine ?a2; rotate_left
 refine ⟨?_, fun h3 => ?_⟩
 refine ?a3; rotate_left
 refine ⟨?_, fun h4 => ?_⟩
 refine ?a4; rotate_left
 refine ⟨?_, fun h5 => ?_⟩
 refine ?a5; rotate_left
 refine ⟨?_, fun h6 => ?_⟩
 refine ?a6; rotate_left
 refine ⟨fun h7 => ?_, fun h7 => ?_⟩
 refine ?a7; rotate_left
 refine ⟨fun h8 => ?_, fun h8 => ?_⟩
 refine ?a8; rotate_left
 refine ⟨fun h9 => ?_, fun h9 => ?_⟩
 refine ?a9; rotate_left
 refine ⟨fun h10 => ?_, fun h10 => ?_⟩
 refine ?a10; rotate_left
 refine ⟨fun h11 => ?_, fun h11 => ?_⟩
 refine ?a11; rotate_left
 refine ⟨fun h12 => ?_, fun h12 => ?_⟩
 refine ⟨?_, fun h13 => ?_⟩
 refine ?a12; rotate_left
 refine ⟨?_, fun h14 => ?_⟩
 refine ?a13; rotate_left
 refine ⟨fun h15 => ?_, fun h15 => ?_⟩
 refine ?a14; rotate_left
 refine ?a15; rotate_left
 refine ⟨fun h16 => ?_, fun h16 => ?_⟩
 refine ⟨?_, fun h17 => ?_⟩
 refine ?a16; rotate_left
 refine ⟨?_, fun h18 => ?_⟩
 refine ?a17; rotate_left
 refine ⟨fun h19 => ?_, fun h19 => ?_⟩
 refine ?a18; rotate_left
 refine ?a19; rotate_left
 refine ⟨fun h20 => ?_, fun h20 => ?_⟩
 refine ⟨?_, fun h21 => ?_⟩
 refine ?a20; rotate_left
 refine ⟨?_, fun h22 => ?_⟩
 refine ?a21; rotate_left
 refine ⟨fun h23 => ?_, fun h23 => ?_⟩
 refine ?a22; rotate_left
 refine ?a23; rotate_left
 refine ⟨fun h24 => ?_, fun h24 => ?_⟩
 refine ⟨?_, fun h25 => ?_⟩
 refine ?a24; rotate_left
 refine ⟨?_, fun h26 => ?_⟩
 refine ?a25; rotate_left
 refine ⟨fun h27 => ?_, fun h27 => ?_⟩
 refine ?a26; rotate_left
 refine ?a27; rotate_left
 refine ⟨fun h28 => ?_, fun h28 => ?_⟩
 refine ⟨?_, fun h29 => ?_⟩
 refine ?a28; rotate_left
 refine ⟨?_, fun h30 => ?_⟩
 refine ?a29; rotate_left
 refine ⟨fun h31 => ?_, fun h31 => ?_⟩
 refine ?a30; rotate_left
 refine ?a31; rotate_left
 refine ⟨fun h32 => ?_, fun h32 => ?_⟩
 refine ⟨?_, fun h33 => ?_⟩
 refine ?a32; rotate_left
 refine ⟨?_, fun h34 => ?_⟩
 refine ?a33; rotate_left
 refine ⟨fun h35 => ?_, fun h35 => ?_⟩
 refine ?a34; rotate_left
 refine ?a35; rotate_left
 refine ⟨fun h36 => ?_, fun h36 => ?_⟩
 refine ⟨?_, fun h37 => ?_⟩
 refine ?a36; rotate_left
 refine ⟨?_, fun h38 => ?_⟩
 refine ?a37; rotate_left
 refine ⟨fun h39 => ?_, fun h39 => ?_⟩
 refine ?a38; rotate_left
 refine ?a39; rotate_left
 refine ⟨fun h40 => ?_, fun h40 => ?_⟩
 refine ⟨?_, fun h41 => ?_⟩
 refine ?a40; rotate_left
 refine ⟨?_, fun h42 => ?_⟩
 refine ?a41; rotate_left
 refine ⟨fun h43 => ?_, fun h43 => ?_⟩
 refine ?a42; rotate_left
 refine ?a43; rotate_left
 refine ⟨fun h44 => ?_, fun h44 => ?_⟩
 refine ⟨?_, fun h45 => ?_⟩
 refine ?a44; rotate_left
 refine ⟨?_, fun h46 => ?_⟩
 refine ?a45; rotate_left
 refine ⟨fun h47 => ?_, fun h47 => ?_⟩
 refine ?a46; rotate_left
 refine ?a47; rotate_left
 refine ⟨fun h48 => ?_, fun h48 => ?_⟩
 refine ⟨?_, fun h49 => ?_⟩
 refine ?a48; rotate_left
 refine ⟨?_, fun h50 => ?_⟩
 refine ?a49; rotate_left
 refine ⟨fun h51 => ?_, fun h51 => ?_⟩
 refine ?a50; rotate_left
 refine ?a51; rotate_left
 refine ⟨fun h52 => ?_, fun h52 => ?_⟩
 refine ⟨?_, fun h53 => ?_⟩
 refine ?a52; rotate_left
 refine ⟨?_, fun h54 => ?_⟩
 refine ?a53; rotate_left
 refine ⟨fun h55 => ?_, fun h55 => ?_⟩
 refine ?a54; rotate_left
 refine ?a55; rotate_left
 refine ⟨fun h56 => ?_, fun h56 => ?_⟩
 refine ⟨?_, fun h57 => ?_⟩
 refine ?a56; rotate_left
 refine ⟨?_, fun h58 => ?_⟩
 refine ?a57; rotate_left
 refine ⟨fun h59 => ?_, fun h59 => ?_⟩
 refine ?a58; rotate_left
 refine ?a59; rotate_left
 refine ⟨fun h60 => ?_, fun h60 => ?_⟩
 refine ⟨?_, fun h61 => ?_⟩
 refine ?a60; rotate_left
 refine ⟨?_, fun h62 => ?_⟩
 refine ?a61; rotate_left
 refine ⟨fun h63 => ?_, fun h63 => ?_⟩
 refine ?a62; rotate_left
 refine ?a63; rotate_left
 refine ⟨fun h64 => ?_, fun h64 => ?_⟩
 refine ⟨?_, fun h65 => ?_⟩
 refine ?a64; rotate_left
 refine ⟨?_, fun h66 => ?_⟩
 refine ?a65; rotate_left
 refine ⟨fun h67 => ?_, fun h67 => ?_⟩
 refine ?a66; rotate_left
 refine ?a67; rotate_left
 refine ⟨fun h68 => ?_, fun h68 => ?_⟩
 refine ⟨?_, fun h69 => ?_⟩
 refine ?a68; rotate_left
 refine ⟨?_, fun h70 => ?_⟩
 refine ?a69; rotate_left
 refine ⟨fun h71 => ?_, fun h71 => ?_⟩
 refine ?a70; rotate_left
 refine ?a71; rotate_left
 refine ⟨?_, fun h72 => ?_⟩
 refine ?a72; rotate_left
 refine ⟨?_, fun h73 => ?_⟩
 refine ?a73; rotate_left
 refine ⟨?_, fun h74 => ?_⟩
 refine ?a74; rotate_left
 refine ⟨?_, fun h75 => ?_⟩
 refine ?a75; rotate_left
 refine ⟨fun h76 => ?_, fun h76 => ?_⟩
 refine ?a76; rotate_left
 refine ?a77; rotate_left
 case a0 | a1 | a2 | a3 | a4 | a5 | a6 | a12 | a13 | a16 | a17 | a20 | a21 | a24 | a25 | a28 | a29 | a32 | a33 | a36 | a37 | a40 | a41 | a44 | a45 | a48 | a49 | a52 | a53 | a56 | a57 | a60 | a61 | a64 | a65 | a68 | a69 | a72 | a73 | a74 | a75 =>
  first
  | exact True.intro
  | exact ⟨hc.1.1, hb, by omega⟩
  | exact ⟨pko.1, by (have hh := pko.2; omega)⟩
  | omega
  | skip
 case a7 | a8 | a9 | a10 | a11 | a14 | a15 | a18 | a19 | a22 | a23 | a26 | a27 | a30 | a31 | a34 | a35 | a38 | a39 | a42 | a43 | a46 | a47 | a50 | a51 | a54 | a55 | a58 | a59 | a62 | a63 | a66 | a67 | a70 | a71 | a76 | a77 =>
  first
  | exact True.intro
  | (exfalso; omega)
  | exact absurd True.intro (by assumption)
  | exact absurd (⟨True.intro, True.intro, True.intro, True.intro, ⟨True.intro, True.intro⟩, ⟨True.intro, True.intro⟩, True.intro, True.intro⟩ : True ∧ True ∧ True ∧ True ∧ (True ∧ True) ∧ (True ∧ True) ∧ True ∧ True) (by assumption)
  | exact absurd r1 (by assumption)
  | exact absurd r2 (by assumption)
  | exact absurd r3 (by assumption)
  | exact absurd r4 (by assumption)
  | exact absurd r5 (by assumption)
  | exact absurd r6 (by assumption)
  | exact absurd r7 (by assumption)
  | exact absurd r8 (by assumption)
  | exact absurd r9 (by assumption)
  | exact absurd r10 (by assumption)
  | exact absurd r11 (by assumption)
  | exact absurd r12 (by assumption)
  | exact absurd r13 (by assumption)
  | exact absurd r14 (by assumption)
  | exact absurd r15 (by assumption)
  | skip
theorem yyg_wBackV : yyc_wBackV.Good Tryz.prog syG (yyE [] [] [] []) := good_of_walkC (Γ := ⟨[zyc_give19, zuc_pcheck, zuc_lay, yzc_readL, yzc_read, zyc_penc, zyc_pdec, zyc_num, za9c_sure19], syG, [], [], []⟩) (ρ := yyE [] [] [] []) sym wBackV_w rfl (fun _ _ _ _ => (ok_cons (Con.Good.env (Con.Good.up (Con.Good.up (Con.Good.up zyg_give19 za9up rfl) yzup rfl) yyup rfl) _ _ _ _) (ok_cons (Con.Good.env (Con.Good.up (Con.Good.up (Con.Good.up (Con.Good.up zug_pcheck zyup rfl) za9up rfl) yzup rfl) yyup rfl) _ _ _ _) (ok_cons (Con.Good.env (Con.Good.up (Con.Good.up (Con.Good.up (Con.Good.up zug_lay zyup rfl) za9up rfl) yzup rfl) yyup rfl) _ _ _ _) (ok_cons (Con.Good.env (Con.Good.up yzg_readL yyup rfl) _ _ _ _) (ok_cons (Con.Good.env (Con.Good.up yzg_read yyup rfl) _ _ _ _) (ok_cons (Con.Good.env (Con.Good.up (Con.Good.up (Con.Good.up zyg_penc za9up rfl) yzup rfl) yyup rfl) _ _ _ _) (ok_cons (Con.Good.env (Con.Good.up (Con.Good.up (Con.Good.up zyg_pdec za9up rfl) yzup rfl) yyup rfl) _ _ _ _) (ok_cons (Con.Good.env (Con.Good.up (Con.Good.up (Con.Good.up zyg_num za9up rfl) yzup rfl) yyup rfl) _ _ _ _) (ok_cons (Con.Good.env (Con.Good.up (Con.Good.up za9g_sure19 yzup rfl) yyup rfl) _ _ _ _) ok_nil)))))))))) wBackV_h
abbrev yyc_wBack : Con := ⟨4, [xryypgbk38_, (.int .u64 (.var 10)), (.int .i64 (.var 11))], xryypgbk39_, (.bool (.tt true)), ⟨12, 0, 0, 0⟩, none⟩
theorem yyg_wBack : yyc_wBack.Good Tryz.prog syG (yyE [] [] [] []) := by
 exact good_split (eq_ (.iapp 24 (.cons (.tup (.cons z0_ (.cons z1_ (.cons z2_ (.cons z3_ (.cons (.int .u32 v4_) (.cons z5_ (.cons (.int .u32 v6_) (.cons z7_ (.cons z8_ (.cons z9_ .nil))))))))))) .nil)) (.lit 0)) yyg_wBackV yyg_wBackX
end Go.Proofs.YtgondiedehjkhaaGreatDoor
