/-
 Layer 18 by the second engine: the reference, HostTells.
-/
import Derived.Test.YtjcgmdgkdkfdpaaGreatDoorSycqht
import Derived.Test.YtjcgmdgkdkfdpaaGreatDoorYkqht
import Derived.Test.YtjcgmdgkdkfdpaaGreatDoorE00qht
namespace Go.Proofs.YtjcgmdgkdkfdpaaGreatDoor
open Go.RowKit Go.Extern.Stop Go.Stop Go.Extern Go.Proofs.YtjcgmdgkdkfdpaaGreatDoor.Sy
set_option linter.unusedVariables false
set_option linter.unusedSimpArgs false
abbrev xrhaqhtk0_ : Tm := (.tup (.cons (.int .u32 v0_) (.cons z1_ (.cons z2_ (.cons z3_ (.cons z4_ (.cons z5_ (.cons z6_ (.cons (.bool (.bvar 0)) (.cons z7_ (.cons z8_ (.cons z9_ (.cons (.int .i64 (.var 10)) (.cons (.int .i64 (.var 11)) .nil))))))))))))))
abbrev xrhaqhtk1_ : Tm := (an_ (an_ (le_ (.lit 0) v0_) (le_ v0_ (.lit 4294967295))) (an_ (an_ (le_ lm_ v1_) (le_ v1_ lM_)) (an_ (an_ (le_ lm_ v2_) (le_ v2_ lM_)) (an_ (an_ (le_ lm_ v3_) (le_ v3_ lM_)) (an_ (an_ (le_ lm_ v4_) (le_ v4_ lM_)) (an_ (an_ (le_ lm_ v5_) (le_ v5_ lM_)) (an_ (an_ (le_ lm_ v6_) (le_ v6_ lM_)) (an_ (an_ (le_ lm_ v7_) (le_ v7_ lM_)) (an_ (an_ (le_ lm_ v8_) (le_ v8_ lM_)) (an_ (an_ (le_ lm_ v9_) (le_ v9_ lM_)) (an_ (an_ (le_ lm_ (.var 10)) (le_ (.var 10) lM_)) (an_ (le_ lm_ (.var 11)) (le_ (.var 11) lM_)))))))))))))
abbrev xrhaqhtk2_ : Tm := (.tup (.cons (.int .u32 v0_) (.cons z1_ (.cons z2_ (.cons z3_ (.cons z4_ (.cons z5_ (.cons z6_ (.cons (.bool (.tt false)) (.cons (.int .i64 (.lit 0)) (.cons (.int .i64 (.lit 0)) (.cons (.int .i64 (.lit 0)) (.cons (.int .i64 (.lit 0)) (.cons (.int .i64 (.lit 0)) .nil))))))))))))))
abbrev xrhaqhtk7_ : Tm := (.iapp 44 (.cons xrhaqhtk0_ (.cons (.int .i64 (.var 12)) .nil)))
abbrev xrhaqhtk17_ : Tm := (.iapp 45 (.cons xrhaqhtk0_ (.cons (.int .i64 (.var 12)) .nil)))
abbrev xrhaqhtk3_ : Tm := (.iapp 31 (.cons (.int .i64 (.i2 .max (.iapp 1 (.cons (.int .i64 (sb_ xrhaqhtk7_ xrhaqhtk17_)) .nil)) (.var 13))) (.cons (.int .i64 (.i2 .min (.iapp 1 (.cons (.int .i64 (ad_ xrhaqhtk7_ xrhaqhtk17_)) .nil)) (.var 14))) .nil)))
abbrev xrhaqhtk4_ : Tm := (.agg (.cons (.int .u32 (.lit 0)) (.cons (.int .i64 (.lit 0)) (.cons (.int .i64 (.lit 0)) (.cons (.int .i64 (.lit 0)) (.cons (.int .i64 (.lit 0)) (.cons (.int .i64 (.lit 0)) (.cons (.int .i64 (.lit 0)) (.cons (.bool (.tt false)) (.cons (.int .i64 (.lit 0)) (.cons (.int .i64 (.lit 0)) (.cons (.int .i64 (.lit 0)) (.cons (.int .i64 (.lit 0)) (.cons (.int .i64 (.lit 0)) .nil))))))))))))))
abbrev xrhaqhtk5_ : Tm := (.iapp 49 (.cons xrhaqhtk0_ (.cons (.int .i64 (.var 12)) (.cons (.int .i64 (.var 13)) (.cons (.int .i64 (.var 14)) .nil)))))
abbrev xrhaqhtk19_ : Tm := (.iapp 2 (.cons (.int .i64 (sb_ (.var 12) v7_)) .nil))
abbrev xrhaqhtk6_ : Tm := (.iapp 5 (.cons (.int .i64 (.iapp 2 (.cons (.int .i64 (ad_ (.iapp 8 (.cons (.int .i64 xrhaqhtk19_) (.cons (.int .u32 v0_) (.cons z1_ .nil)))) (.lit 1))) .nil))) (.cons (.int .i64 (.iapp 4 (.cons (.int .i64 (ad_ (.iapp 8 (.cons (.int .i64 xrhaqhtk19_) (.cons (.int .u32 v0_) (.cons z1_ .nil)))) (.lit 1))) .nil))) .nil)))
abbrev xrhaqhtk8_ : Tm := (.iapp 31 (.cons (.int .i64 (.var 13)) (.cons (.int .i64 (.var 14)) .nil)))
abbrev xrhaqhtk9_ : Tm := (.agg (.cons (.int .u32 v0_) (.cons z1_ (.cons z2_ (.cons z3_ (.cons z4_ (.cons z5_ (.cons z6_ (.cons (.bool (.bvar 0)) (.cons z7_ (.cons z8_ (.cons z9_ (.cons (.int .i64 (.var 10)) (.cons (.int .i64 (.var 11)) .nil))))))))))))))
abbrev xrhaqhtk10_ : Tm := (an_ (an_ (eq_ (.iapp 54 (.cons (.int .i64 (.iapp 42 (.cons xrhaqhtk2_ .nil))) (.cons z0_ .nil))) (.lit 0)) (eq_ (.iapp 54 (.cons (.int .i64 (.iapp 42 (.cons xrhaqhtk2_ .nil))) (.cons z1_ .nil))) (.lit 0))) (an_ (eq_ (.iapp 54 (.cons (.int .i64 (.iapp 42 (.cons xrhaqhtk2_ .nil))) (.cons z2_ .nil))) (.lit 0)) (an_ (an_ (eq_ (.iapp 54 (.cons (.int .i64 (.iapp 42 (.cons xrhaqhtk2_ .nil))) (.cons z3_ .nil))) (.lit 0)) (eq_ (.iapp 54 (.cons (.int .i64 (.iapp 42 (.cons xrhaqhtk2_ .nil))) (.cons z4_ .nil))) (.lit 0))) (an_ (eq_ (.iapp 54 (.cons (.int .i64 (.iapp 42 (.cons xrhaqhtk2_ .nil))) (.cons z5_ .nil))) (.lit 0)) (eq_ (.iapp 54 (.cons (.int .i64 (.iapp 42 (.cons xrhaqhtk2_ .nil))) (.cons z6_ .nil))) (.lit 0))))))
abbrev xrhaqhtk25_ : Tm := (.iapp 26 (.cons (.int .i64 (.iapp 32 (.cons z5_ (.cons (.int .i64 (.lit 1024)) .nil)))) (.cons (.int .i64 (.lit (-1048576))) (.cons (.int .i64 (.lit 1048576)) .nil))))
abbrev xrhaqhtk11_ : Tm := (.iapp 26 (.cons (.int .i64 (wr_ (ad_ (.iapp 26 (.cons z1_ (.cons (.int .i64 (.lit (-1048576))) (.cons (.int .i64 (.lit 1048576)) .nil)))) xrhaqhtk25_))) (.cons (.int .i64 (.lit (-1048576))) (.cons (.int .i64 (.lit 1048576)) .nil))))
abbrev xrhaqhtk12_ : Tm := (an_ (an_ (eq_ (.iapp 54 (.cons (.int .i64 (.iapp 42 (.cons xrhaqhtk2_ .nil))) (.cons z0_ .nil))) v0_) (eq_ (.iapp 54 (.cons (.int .i64 (.iapp 42 (.cons xrhaqhtk2_ .nil))) (.cons z1_ .nil))) v1_)) (an_ (eq_ (.iapp 54 (.cons (.int .i64 (.iapp 42 (.cons xrhaqhtk2_ .nil))) (.cons z2_ .nil))) v2_) (an_ (an_ (eq_ (.iapp 54 (.cons (.int .i64 (.iapp 42 (.cons xrhaqhtk2_ .nil))) (.cons z3_ .nil))) v3_) (eq_ (.iapp 54 (.cons (.int .i64 (.iapp 42 (.cons xrhaqhtk2_ .nil))) (.cons z4_ .nil))) v4_)) (an_ (eq_ (.iapp 54 (.cons (.int .i64 (.iapp 42 (.cons xrhaqhtk2_ .nil))) (.cons z5_ .nil))) v5_) (eq_ (.iapp 54 (.cons (.int .i64 (.iapp 42 (.cons xrhaqhtk2_ .nil))) (.cons z6_ .nil))) v6_)))))
abbrev xrhaqhtk23_ : Tm := (.iapp 27 (.cons (.int .u32 v0_) (.cons z1_ (.cons (.int .i64 (.var 10)) .nil))))
abbrev xrhaqhtk22_ : Tm := (.iapp 28 (.cons (.int .u32 v0_) (.cons z1_ (.cons (.int .i64 (.var 10)) .nil))))
abbrev xrhaqhtk13_ : Tm := (.iapp 8 (.cons (.int .i64 xrhaqhtk19_) (.cons (.int .u32 xrhaqhtk23_) (.cons (.int .i64 xrhaqhtk22_) .nil))))
abbrev xrhaqhtk14_ : Tm := (.agg (.cons (.int .u32 v0_) (.cons z1_ (.cons z2_ (.cons z3_ (.cons z4_ (.cons z5_ (.cons z6_ (.cons (.bool (.tt true)) (.cons (.int .i64 (.var 12)) (.cons (.int .i64 xrhaqhtk8_) (.cons (.int .i64 (.iapp 1 (.cons (.int .i64 (sb_ (.var 14) xrhaqhtk8_)) .nil))) (.cons (.int .i64 (.var 10)) (.cons (.int .i64 (.var 11)) .nil))))))))))))))
abbrev xrhaqhtk15_ : Tm := (an_ (an_ (le_ (.lit 0) v0_) (le_ v0_ (.lit 4294967295))) (an_ (an_ (le_ lm_ v1_) (le_ v1_ lM_)) (an_ (an_ (le_ lm_ v2_) (le_ v2_ lM_)) (an_ (an_ (le_ lm_ v3_) (le_ v3_ lM_)) (an_ (an_ (le_ lm_ v4_) (le_ v4_ lM_)) (an_ (an_ (le_ lm_ v5_) (le_ v5_ lM_)) (an_ (le_ lm_ v6_) (le_ v6_ lM_))))))))
abbrev xrhaqhtk16_ : Tm := (.not (an_ (an_ (an_ (eq_ (.iapp 54 (.cons (.int .i64 xrhaqhtk5_) (.cons z0_ .nil))) (.lit 0)) (eq_ (.iapp 54 (.cons (.int .i64 xrhaqhtk5_) (.cons z1_ .nil))) (.lit 0))) (an_ (eq_ (.iapp 54 (.cons (.int .i64 xrhaqhtk5_) (.cons z2_ .nil))) (.lit 0)) (an_ (an_ (eq_ (.iapp 54 (.cons (.int .i64 xrhaqhtk5_) (.cons z3_ .nil))) (.lit 0)) (eq_ (.iapp 54 (.cons (.int .i64 xrhaqhtk5_) (.cons z4_ .nil))) (.lit 0))) (an_ (eq_ (.iapp 54 (.cons (.int .i64 xrhaqhtk5_) (.cons z5_ .nil))) (.lit 0)) (eq_ (.iapp 54 (.cons (.int .i64 xrhaqhtk5_) (.cons z6_ .nil))) (.lit 0)))))) (an_ (.not (eq_ xrhaqhtk5_ (.lit 0))) (an_ (eq_ (.iapp 54 (.cons (.int .i64 xrhaqhtk5_) (.cons (.int .i64 (.var 12)) .nil))) (.lit 0)) (an_ (eq_ (.iapp 54 (.cons (.int .i64 xrhaqhtk5_) (.cons (.int .i64 (.iapp 50 (.cons xrhaqhtk0_ (.cons (.int .i64 (.var 12)) (.cons (.int .i64 (.var 13)) (.cons (.int .i64 (.var 14)) .nil)))))) .nil))) (.lit 0)) (an_ (eq_ (.iapp 54 (.cons (.int .i64 xrhaqhtk5_) (.cons (.int .i64 (.iapp 51 (.cons xrhaqhtk0_ (.cons (.int .i64 (.var 12)) (.cons (.int .i64 (.var 13)) (.cons (.int .i64 (.var 14)) .nil)))))) .nil))) (.lit 0)) (an_ (eq_ (.iapp 54 (.cons (.int .i64 xrhaqhtk5_) (.cons (.int .i64 (.iapp 52 (.cons xrhaqhtk0_ (.cons (.int .i64 (.var 12)) (.cons (.int .i64 (.var 13)) (.cons (.int .i64 (.var 14)) .nil)))))) .nil))) (.lit 0)) (eq_ (.iapp 54 (.cons (.int .i64 xrhaqhtk5_) (.cons (.int .i64 (.iapp 53 (.cons xrhaqhtk0_ (.cons (.int .i64 (.var 12)) (.cons (.int .i64 (.var 13)) (.cons (.int .i64 (.var 14)) .nil)))))) .nil))) (.lit 0)))))))))
abbrev xrhaqhtk24_ : Tm := (an_ (le_ lm_ (.var 12)) (le_ (.var 12) lM_))
abbrev xrhaqhtk33_ : Tm := (an_ (an_ (le_ lm_ (.var 13)) (le_ (.var 13) lM_)) (an_ (le_ lm_ (.var 14)) (le_ (.var 14) lM_)))
abbrev xrhaqhtk18_ : Tm := (an_ xrhaqhtk1_ (an_ xrhaqhtk24_ (an_ (le_ (.var 13) (.var 14)) xrhaqhtk33_)))
abbrev xrhaqhtk20_ : Tm := (.iapp 5 (.cons (.int .i64 (.iapp 2 (.cons (.int .i64 (sb_ xrhaqhtk8_ xrhaqhtk7_)) .nil))) (.cons (.int .i64 (.iapp 4 (.cons (.int .i64 (sb_ xrhaqhtk8_ xrhaqhtk7_)) .nil))) .nil)))
abbrev xrhaqhtk21_ : Tm := (.iapp 5 (.cons (.int .i64 (.iapp 2 (.cons (.int .i64 (sb_ xrhaqhtk3_ xrhaqhtk7_)) .nil))) (.cons (.int .i64 (.iapp 4 (.cons (.int .i64 (sb_ xrhaqhtk3_ xrhaqhtk7_)) .nil))) .nil)))
abbrev xrhaqhtk26_ : Tm := (an_ (an_ (le_ (.lit 0) v0_) (le_ v0_ (.lit 4294967295))) (an_ (le_ lm_ v1_) (le_ v1_ lM_)))
abbrev xrhaqhtk27_ : Tm := (.tup (.cons (.agg (.cons (.int .u32 v0_) (.cons z1_ (.cons z2_ (.cons z3_ (.cons z4_ (.cons z5_ (.cons z6_ (.cons (.bool (.tt true)) (.cons (.int .i64 (.var 12)) (.cons (.int .i64 xrhaqhtk3_) (.cons (.int .i64 (.iapp 1 (.cons (.int .i64 (sb_ (.i2 .min (.iapp 1 (.cons (.int .i64 (ad_ xrhaqhtk7_ xrhaqhtk17_)) .nil)) (.var 14)) xrhaqhtk3_)) .nil))) (.cons (.int .i64 (.iapp 41 (.cons z3_ (.cons z4_ (.cons z5_ (.cons (.int .i64 (.var 11)) (.cons (.int .i64 xrhaqhtk21_) .nil))))))) (.cons (.int .i64 (.iapp 36 (.cons (.int .i64 (.var 11)) (.cons (.int .i64 xrhaqhtk21_) .nil)))) .nil)))))))))))))) (.cons (.int .i64 (.lit 0)) .nil)))
abbrev xrhaqhtk28_ : Tm := (wr_ (ad_ (ad_ (.iapp 11 (.cons (.int .i64 xrhaqhtk19_) (.cons z1_ .nil))) (.lit 2)) (.lit 2)))
abbrev xrhaqhtk29_ : Tm := (.tup (.cons xrhaqhtk4_ (.cons (.int .i64 (.lit 1)) .nil)))
abbrev xrhaqhtk30_ : Tm := (.tup (.cons (.agg (.cons (.int .u32 v0_) (.cons z1_ (.cons z2_ (.cons z3_ (.cons z4_ (.cons z5_ (.cons z6_ (.cons (.bool (.tt true)) (.cons (.int .i64 (.var 12)) (.cons (.int .i64 xrhaqhtk8_) (.cons (.int .i64 (.iapp 1 (.cons (.int .i64 (sb_ (.var 14) xrhaqhtk8_)) .nil))) (.cons (.int .i64 (.iapp 41 (.cons z3_ (.cons z4_ (.cons z5_ (.cons (.int .i64 (.var 11)) (.cons (.int .i64 xrhaqhtk20_) .nil))))))) (.cons (.int .i64 (.iapp 36 (.cons (.int .i64 (.var 11)) (.cons (.int .i64 xrhaqhtk20_) .nil)))) .nil)))))))))))))) (.cons (.int .i64 (.lit 0)) .nil)))
abbrev xrhaqhtk31_ : Tm := (an_ xrhaqhtk1_ (an_ xrhaqhtk24_ (an_ (le_ (.i2 .max (.iapp 1 (.cons (.int .i64 (sb_ xrhaqhtk7_ xrhaqhtk17_)) .nil)) (.var 13)) (.i2 .min (.iapp 1 (.cons (.int .i64 (ad_ xrhaqhtk7_ xrhaqhtk17_)) .nil)) (.var 14))) (an_ (an_ (le_ lm_ (.i2 .max (.iapp 1 (.cons (.int .i64 (sb_ xrhaqhtk7_ xrhaqhtk17_)) .nil)) (.var 13))) (le_ (.i2 .max (.iapp 1 (.cons (.int .i64 (sb_ xrhaqhtk7_ xrhaqhtk17_)) .nil)) (.var 13)) lM_)) (an_ (le_ lm_ (.i2 .min (.iapp 1 (.cons (.int .i64 (ad_ xrhaqhtk7_ xrhaqhtk17_)) .nil)) (.var 14))) (le_ (.i2 .min (.iapp 1 (.cons (.int .i64 (ad_ xrhaqhtk7_ xrhaqhtk17_)) .nil)) (.var 14)) lM_))))))
abbrev xrhaqhtk32_ : Tm := (.tup (.cons (.int .i64 (.lit 0)) (.cons (.int .i64 (.lit 0)) (.cons (.int .i64 (.lit 1)) .nil))))
abbrev xrhaqhtk34_ : Tm := (.iapp 43 (.cons xrhaqhtk0_ (.cons (.int .i64 (.var 12)) .nil)))
abbrev xrhaqhtk35_ : Tm := (.iapp 1 (.cons (.int .i64 (ad_ v9_ (.iapp 10 (.cons (.int .i64 xrhaqhtk6_) (.cons (.int .i64 (wr_ (sb_ v2_ (.var 10)))) .nil))))) .nil))
abbrev xrhaqhtk36_ : Tm := (.iapp 1 (.cons (.int .i64 (ad_ v9_ (.iapp 10 (.cons (.int .i64 xrhaqhtk6_) (.cons (.int .i64 (wr_ (ad_ v2_ (.var 10)))) .nil))))) .nil))
abbrev xrhaqhtk37_ : Tm := (.iapp 54 (.cons (.int .i64 (.iapp 57 (.cons xrhaqhtk0_ .nil))) (.cons (.int .i64 xrhaqhtk23_) .nil)))
abbrev xrhaqhtk38_ : Tm := (.iapp 54 (.cons (.int .i64 (.iapp 57 (.cons xrhaqhtk0_ .nil))) (.cons (.int .i64 xrhaqhtk22_) .nil)))
abbrev xrhaqhtk39_ : Tm := (.agg (.cons (.int .i64 (.var 13)) (.cons (.int .i64 (.var 14)) .nil)))
abbrev xrhaqhtk40_ : Tm := (.iapp 29 (.cons (.int .u32 v0_) (.cons z1_ (.cons (.int .i64 (.var 10)) .nil))))
abbrev xrhaqhtk41_ : Tm := (.tup (.cons (.int .i64 (.lit 0)) (.cons (.int .i64 (.lit 0)) (.cons (.int .i64 (.lit 2)) .nil))))
abbrev xrhaqhtk42_ : Tm := (.not (.b2 .beq (eq_ (.iapp 42 (.cons xrhaqhtk0_ .nil)) (.lit 0)) (.bapp 4 (.cons xrhaqhtk0_ .nil))))
abbrev xrhaqhtk43_ : Tm := (eq_ (.iapp 35 (.cons z3_ (.cons z4_ (.cons z5_ .nil)))) (.lit 0))
abbrev xrhaqhtk44_ : Tm := (.b2 .beq (eq_ (.iapp 42 (.cons xrhaqhtk2_ .nil)) (.lit 0)) (.bapp 4 (.cons xrhaqhtk2_ .nil)))
abbrev xrhaqhtk45_ : Tm := (an_ (le_ lm_ xrhaqhtk7_) (le_ xrhaqhtk7_ lM_))
abbrev xrhaqhtk46_ : Tm := (.not (.bapp 4 (.cons xrhaqhtk0_ .nil)))
def fcE (l : List Value) : Int := if hoB l = true then adE (ci l 0) (ci l 1) (ci l 11) else 1
theorem fc_y {rm rs rr gp gi rl ro hb ht he sf ss : Int} {sy : Bool} (h : hoP rm rs rr gp gi rl ro hb ht he sf ss) : fcE (Sy.rows (hoT rm rs rr gp gi rl ro hb ht he sf ss sy)) = adE rm rs sf := if_pos (decide_eq_true h)
theorem fc_n {rm rs rr gp gi rl ro hb ht he sf ss : Int} {sy : Bool} (h : ¬ hoP rm rs rr gp gi rl ro hb ht he sf ss) : fcE (Sy.rows (hoT rm rs rr gp gi rl ro hb ht he sf ss sy)) = 1 := if_neg (by
 intro hx
 exact h (of_decide_eq_true hx))
theorem gd_ad (m s p : Int) : gdF (adE m s p) (adA m s p) = adA m s p ∧ gdF (adE m s p) (adS m s p) = adS m s p := by
 by_cases h : adE m s p = 0
 · exact ⟨gdq_y h _, gdq_y h _⟩
 · have e1 : adA m s p = 0 := by unfold adA; rw [if_neg h]
   have e2 : adS m s p = 0 := by unfold adS; rw [if_neg h]
   rw [gdq_n h, gdq_n h, e1, e2]
   exact ⟨rfl, rfl⟩
theorem bn_ref {he rm rs p g : Int} (h0 : 0 ≤ g) (hq : 0 ≤ qE rm rs g) (hv : 0 ≤ g / 2 ^ rs.toNat) (e0 : 0 ≤ he) (p0 : 0 ≤ p) : satE (satE (he + upK (satE (qE rm rs g + 1) * p)) + (g / 2 ^ rs.toNat + 2 + 2)) = bnO he rm rs p g := by
 unfold bnO
 have s1 := satE_spec (qE rm rs g + 1)
 have m := Int.mul_nonneg (show 0 ≤ satE (qE rm rs g + 1) by omega) p0
 have u : 0 ≤ upK (satE (qE rm rs g + 1) * p) := by unfold upK; omega
 generalize upK (satE (qE rm rs g + 1) * p) = x at *
 generalize g / 2 ^ rs.toNat = y at *
 have s2 := satE_spec (he + x)
 have s3 := satE_spec (satE (he + x) + (y + 2))
 have s4 := satE_spec (satE (satE (he + x) + (y + 2)) + 2)
 have s5 := satE_spec (satE (he + x) + (y + 2 + 2))
 omega
noncomputable def haI : Nat → List Value → Int
 | 57, [l] => fcE (rows l)
 | i, l => ykI i l
noncomputable def haB : Nat → List Value → Bool
 | i, l => ykB i l
noncomputable def haV : Nat → List Value → Value
 | i, l => ykV i l
noncomputable abbrev haE (iv : List Int) (bv : List Bool) (vv : List Value) (sv : List ByteArray) : Env := { iv := iv, bv := bv, vv := vv, sv := sv, fi := haI, fb := haB, fv := haV, et := 94 }
set_option maxHeartbeats 8000000 in
theorem haup : Agree 57 5 2 (ykE [] [] [] []) (haE [] [] [] []) := ⟨rfl, (by
   intro f hf
   funext l
   show haI f l = ykI f l
   unfold haI
   split <;> first | rfl | omega), (by
   intro f hf
   funext l
   show haB f l = ykB f l
   unfold haB
   split <;> first | rfl | omega), (by
   intro f hf
   funext l
   show haV f l = ykV f l
   unfold haV
   split <;> first | rfl | omega)⟩
theorem hai_sa (k1 : IntKind) (a : Int) : haI 1 [.int k1 a] = satE a := rfl
theorem hai_nv (k1 : IntKind) (a : Int) : haI 2 [.int k1 a] = svE a := rfl
theorem hai_so (k1 : IntKind) (a : Int) : haI 4 [.int k1 a] = soE a := rfl
theorem hai_bd (k1 : IntKind) (a : Int) (k2 : IntKind) (o : Int) : haI 5 [.int k1 a, .int k2 o] = bdE a o := rfl
theorem hai_msn (k1 : IntKind) (a : Int) (k2 : IntKind) (b : Int) (k3 : IntKind) (c : Int) : haI 8 [.int k1 a, .int k2 b, .int k3 c] = msN a b c := rfl
theorem hai_mse (k1 : IntKind) (a : Int) (k2 : IntKind) (b : Int) (k3 : IntKind) (c : Int) : haI 9 [.int k1 a, .int k2 b, .int k3 c] = msE a b c := rfl
theorem hai_up (k1 : IntKind) (g : Int) (k2 : IntKind) (r : Int) : haI 10 [.int k1 g, .int k2 r] = upK (g * r) := rfl
theorem hai_hv (k1 : IntKind) (n : Int) (k2 : IntKind) (s : Int) : haI 11 [.int k1 n, .int k2 s] = n / 2 ^ s.toNat := rfl
theorem hai_cl (k1 : IntKind) (v : Int) (k2 : IntKind) (lo : Int) (k3 : IntKind) (hi : Int) : haI 26 [.int k1 v, .int k2 lo, .int k3 hi] = clI v lo hi := rfl
theorem hai_ada (k1 : IntKind) (m : Int) (k2 : IntKind) (s : Int) (k3 : IntKind) (p : Int) : haI 27 [.int k1 m, .int k2 s, .int k3 p] = adA m s p := rfl
theorem hai_ads (k1 : IntKind) (m : Int) (k2 : IntKind) (s : Int) (k3 : IntKind) (p : Int) : haI 28 [.int k1 m, .int k2 s, .int k3 p] = adS m s p := rfl
theorem hai_ade (k1 : IntKind) (m : Int) (k2 : IntKind) (s : Int) (k3 : IntKind) (p : Int) : haI 29 [.int k1 m, .int k2 s, .int k3 p] = adE m s p := rfl
theorem hai_mi (k1 : IntKind) (a : Int) (k2 : IntKind) (b : Int) : haI 31 [.int k1 a, .int k2 b] = miI a b := rfl
theorem hai_dv (k1 : IntKind) (a : Int) (k2 : IntKind) (b : Int) : haI 32 [.int k1 a, .int k2 b] = a / b := rfl
theorem hai_sve (k1 : IntKind) (p : Int) (k2 : IntKind) (q : Int) (k3 : IntKind) (l : Int) : haI 35 [.int k1 p, .int k2 q, .int k3 l] = svK p q l := rfl
theorem hai_sts (k1 : IntKind) (s : Int) (k2 : IntKind) (o : Int) : haI 36 [.int k1 s, .int k2 o] = stS s o := rfl
theorem hai_stf (k1 : IntKind) (p : Int) (k2 : IntKind) (q : Int) (k3 : IntKind) (l : Int) (k4 : IntKind) (s : Int) (k5 : IntKind) (o : Int) : haI 41 [.int k1 p, .int k2 q, .int k3 l, .int k4 s, .int k5 o] = stF p q l s o := rfl
theorem hai_hme (l : Value) : haI 42 [l] = hoL (rows l) := rfl
theorem hai_rke (l : Value) (k1 : IntKind) (k : Int) : haI 43 [l, .int k1 k] = rkEl (rows l) k := rfl
theorem hai_rkt (l : Value) (k1 : IntKind) (k : Int) : haI 44 [l, .int k1 k] = rkTl (rows l) k := rfl
theorem hai_rko (l : Value) (k1 : IntKind) (k : Int) : haI 45 [l, .int k1 k] = rkOl (rows l) k := rfl
theorem hai_nwe (l : Value) (k1 : IntKind) (k : Int) : haI 46 [l, .int k1 k] = nwEl (rows l) k := rfl
theorem hai_nwt (l : Value) (k1 : IntKind) (k : Int) : haI 47 [l, .int k1 k] = nwTl (rows l) k := rfl
theorem hai_nwo (l : Value) (k1 : IntKind) (k : Int) : haI 48 [l, .int k1 k] = nwOl (rows l) k := rfl
theorem hai_sye (l : Value) (k1 : IntKind) (k : Int) (k2 : IntKind) (a : Int) (k3 : IntKind) (b : Int) : haI 49 [l, .int k1 k, .int k2 a, .int k3 b] = syEl (rows l) k a b := rfl
theorem hai_syt (l : Value) (k1 : IntKind) (k : Int) (k2 : IntKind) (a : Int) (k3 : IntKind) (b : Int) : haI 50 [l, .int k1 k, .int k2 a, .int k3 b] = syTl (rows l) k a b := rfl
theorem hai_syr (l : Value) (k1 : IntKind) (k : Int) (k2 : IntKind) (a : Int) (k3 : IntKind) (b : Int) : haI 51 [l, .int k1 k, .int k2 a, .int k3 b] = syRl (rows l) k a b := rfl
theorem hai_syf (l : Value) (k1 : IntKind) (k : Int) (k2 : IntKind) (a : Int) (k3 : IntKind) (b : Int) : haI 52 [l, .int k1 k, .int k2 a, .int k3 b] = syFl (rows l) k a b := rfl
theorem hai_sys (l : Value) (k1 : IntKind) (k : Int) (k2 : IntKind) (a : Int) (k3 : IntKind) (b : Int) : haI 53 [l, .int k1 k, .int k2 a, .int k3 b] = sySl (rows l) k a b := rfl
theorem hai_gd (k1 : IntKind) (e : Int) (k2 : IntKind) (x : Int) : haI 54 [.int k1 e, .int k2 x] = gdF e x := rfl
theorem hai_fce (l : Value) : haI 57 [l] = fcE (rows l) := rfl
theorem hab_fm (k1 : IntKind) (a : Int) (k2 : IntKind) (s : Int) : haB 0 [.int k1 a, .int k2 s] = decide (fmP a s) := rfl
theorem hab_hm (l : Value) : haB 4 [l] = hoB (rows l) := rfl
def rmay16_tree : Tree :=
 (.br (le_ (.lit 0) v0_)
 (.br (le_ v0_ (.lit 1024))
 (.br (le_ (.lit 0) v1_)
 (.br (le_ v1_ (.lit 1024))
 (.br (le_ (.lit 0) v2_)
 (.ret (.bool (le_ v2_ (.lit 1048576))))
 (.ret (.bool (.tt false))))
 (.ret (.bool (.tt false))))
 (.ret (.bool (.tt false))))
 (.ret (.bool (.tt false))))
 (.ret (.bool (.tt false))))
abbrev hac_rmay16 : Con := ⟨53, [(.agg (.cons z0_ (.cons z1_ .nil))), z2_], (.tt true), (.bool (eq_ (.iapp 35 (.cons z0_ (.cons z1_ (.cons z2_ .nil)))) (.lit 0))), ⟨3, 0, 0, 0⟩, none⟩
theorem rmay16_w : walk Tryz.prog 94 ⟨[], syG, [], [], []⟩ [] .v hac_rmay16 hac_rmay16.n 3000 = some rmay16_tree := by kernel_rfl
theorem rmay16_h (p q l : Int) : Hyp_ hac_rmay16 rmay16_tree (haE [p, q, l] [] [] []) := by
 intro hc hty
 simp only [hac_rmay16, Sy.holds, haE, denV, denI, denB, denL, I2.den, VOp.den, List.getD_cons_zero, List.getD_cons_succ, Cst.den, syso, syse, syio, sybo, B2.ofInts, B2.denI, B2.denB, if_true, Bool.false_eq_true, if_false, Nat.div_one, Nat.mul_one, Nat.add_zero] at hc
 simp only [hac_rmay16, patsTyp, patTyp, patTypL, haE, denV, denL, List.getD_cons_zero, List.getD_cons_succ, and_true, true_and] at hty
 unfold rmay16_tree
 simp only [hac_rmay16, Tree.holds, Sy.holds, haE, denV, denI, denB, denL, I2.den, VOp.den, List.getD_cons_zero, List.getD_cons_succ, Cst.den, syso, syse, syio, sybo, hai_sve, B2.ofInts, B2.denI, B2.denB, if_true, Bool.false_eq_true, if_false, Nat.div_one, Nat.mul_one, Nat.add_zero]
 have hs := sv_spec p q l
 refine ⟨fun h0 => ?_, fun h0 => ?_⟩
 refine ⟨fun h1 => ?_, fun h1 => ?_⟩
 refine ⟨fun h2 => ?_, fun h2 => ?_⟩
 refine ⟨fun h3 => ?_, fun h3 => ?_⟩
 refine ⟨fun h4 => ?_, fun h4 => ?_⟩
 refine ?a0; rotate_left
 refine ?a1; rotate_left
 refine ?a2; rotate_left
 refine ?a3; rotate_left
 refine ?a4; rotate_left
 refine ?a5; rotate_left
 case a0 | a1 | a2 | a3 | a4 | a5 =>
  refine congrArg Value.bool ?_
  first
  | (rw [show svK p q l = 0 by omega]; rfl)
  | (rw [show svK p q l = 1 by omega]; rfl)
  | (by_cases hl : l ≤ 1048576
     · rw [show svK p q l = 0 by omega]; simp only [hl, decide_true]; rfl
     · rw [show svK p q l = 1 by omega]; simp only [hl, decide_false]; rfl)
  | skip
theorem hag_rmay16 : hac_rmay16.Good Tryz.prog syG (haE [] [] [] []) := good_of_walk (Γ := ⟨[], syG, [], [], []⟩) (ρ := haE [] [] [] []) sym rmay16_w rfl (fun _ _ _ _ => ok_nil) rmay16_h
def rpullv_tree : Tree :=
 (.br (.not (eq_ (.iapp 35 (.cons z0_ (.cons z1_ (.cons (.int .i64 (.lit 0)) .nil)))) (.lit 0)))
 (.ret xrhaqhtk32_)
 (.br (lt_ v2_ (.lit (-1048576)))
 (.ret xrhaqhtk32_)
 (.br (lt_ (.lit 1048576) v2_)
 (.ret xrhaqhtk32_)
 (.br (lt_ v3_ (.lit (-1048576)))
 (.ret xrhaqhtk32_)
 (.br (lt_ (.lit 1048576) v3_)
 (.ret xrhaqhtk32_)
 (.ret (.tup (.cons (.int .i64 (wr_ (ad_ (wr_ (ml_ v0_ v2_)) (wr_ (ml_ v1_ v3_))))) (.cons (.int .i64 (wr_ (sb_ (wr_ (ml_ v1_ v2_)) (wr_ (ml_ v0_ v3_))))) (.cons (.int .i64 (.lit 0)) .nil))))))))))
abbrev hac_rpullv : Con := ⟨92, [(.agg (.cons z0_ (.cons z1_ .nil))), z2_, z3_], (an_ (eq_ (.iapp 35 (.cons z0_ (.cons z1_ (.cons (.int .i64 (.lit 0)) .nil)))) (.lit 0)) (an_ (an_ (le_ (.lit (-1048576)) v2_) (le_ v2_ (.lit 1048576))) (an_ (le_ (.lit (-1048576)) v3_) (le_ v3_ (.lit 1048576))))), (.tup (.cons (.int .i64 (ad_ (ml_ v0_ v2_) (ml_ v1_ v3_))) (.cons (.int .i64 (sb_ (ml_ v1_ v2_) (ml_ v0_ v3_))) (.cons (.int .i64 (.lit 0)) .nil)))), ⟨4, 0, 0, 0⟩, none⟩
theorem rpullv_w : walk Tryz.prog 94 ⟨[hac_rmay16], syG, [], [], []⟩ [] .v hac_rpullv hac_rpullv.n 3000 = some rpullv_tree := by kernel_rfl
theorem rpullv_h (p q o s : Int) : Hyp_ hac_rpullv rpullv_tree (haE [p, q, o, s] [] [] []) := by
 intro hc hty
 simp only [hac_rpullv, Sy.holds, haE, denV, denI, denB, denL, I2.den, VOp.den, List.getD_cons_zero, List.getD_cons_succ, Cst.den, syso, syse, syio, sybo, hai_sve, B2.ofInts, B2.denI, B2.denB, if_true, Bool.false_eq_true, if_false, Nat.div_one, Nat.mul_one, Nat.add_zero] at hc
 simp only [hac_rpullv, patsTyp, patTyp, patTypL, haE, denV, denL, List.getD_cons_zero, List.getD_cons_succ, and_true, true_and] at hty
 unfold rpullv_tree
 simp only [hac_rpullv, Tree.holds, Sy.holds, haE, denV, denI, denB, denL, I2.den, VOp.den, List.getD_cons_zero, List.getD_cons_succ, Cst.den, syso, syse, syio, sybo, hai_sve, B2.ofInts, B2.denI, B2.denB, if_true, Bool.false_eq_true, if_false, Nat.div_one, Nat.mul_one, Nat.add_zero]
 have hv := sv_spec p q 0
 refine ⟨fun h0 => ?_, fun h0 => ?_⟩
 refine ?a0; rotate_left
 refine ⟨fun h1 => ?_, fun h1 => ?_⟩
 refine ?a1; rotate_left
 refine ⟨fun h2 => ?_, fun h2 => ?_⟩
 refine ?a2; rotate_left
 refine ⟨fun h3 => ?_, fun h3 => ?_⟩
 refine ?a3; rotate_left
 refine ⟨fun h4 => ?_, fun h4 => ?_⟩
 refine ?a4; rotate_left
 refine ?a5; rotate_left
 case a0 | a1 | a2 | a3 | a4 | a5 =>
  first
  | (exfalso; omega)
  | (have b1 := mul_bd (p := p) (a := o) (by omega) (by omega) (by omega) (by omega)
     have b2 := mul_bd (p := q) (a := s) (by omega) (by omega) (by omega) (by omega)
     have b3 := mul_bd (p := q) (a := o) (by omega) (by omega) (by omega) (by omega)
     have b4 := mul_bd (p := p) (a := s) (by omega) (by omega) (by omega) (by omega)
     have w1 := wr_i64 (p * o)
     have w2 := wr_i64 (q * s)
     have w3 := wr_i64 (q * o)
     have w4 := wr_i64 (p * s)
     rw [show IntKind.wrap .i64 (p * o) = p * o by omega, show IntKind.wrap .i64 (q * s) = q * s by omega, show IntKind.wrap .i64 (q * o) = q * o by omega, show IntKind.wrap .i64 (p * s) = p * s by omega]
     have w5 := wr_i64 (p * o + q * s)
     have w6 := wr_i64 (q * o - p * s)
     rw [show IntKind.wrap .i64 (p * o + q * s) = p * o + q * s by omega, show IntKind.wrap .i64 (q * o - p * s) = q * o - p * s by omega])
  | skip
theorem hag_rpullv : hac_rpullv.Good Tryz.prog syG (haE [] [] [] []) := good_of_walk (Γ := ⟨[hac_rmay16], syG, [], [], []⟩) (ρ := haE [] [] [] []) sym rpullv_w rfl (fun _ _ _ _ => (ok_cons (Con.Good.env hag_rmay16 _ _ _ _) ok_nil)) rpullv_h
def rstepv_tree : Tree :=
 (.br (.not (eq_ (.iapp 35 (.cons z2_ (.cons z3_ (.cons z4_ .nil)))) (.lit 0)))
 (.ret (.tup (.cons (.agg (.cons (.int .i64 (.lit 0)) (.cons (.int .i64 (.lit 0)) .nil))) (.cons (.int .i64 (.lit 1)) .nil))))
 (.need (an_ (le_ lm_ v5_) (le_ v5_ lM_))
 (.need (an_ (eq_ (.iapp 35 (.cons z2_ (.cons z3_ (.cons (.int .i64 (.lit 0)) .nil)))) (.lit 0)) (an_ (an_ (le_ (.lit (-1048576)) xrhaqhtk25_) (le_ xrhaqhtk25_ (.lit 1048576))) (an_ (le_ (.lit (-1048576)) xrhaqhtk11_) (le_ xrhaqhtk11_ (.lit 1048576)))))
 (.need (an_ (le_ lm_ (ad_ (ml_ v2_ xrhaqhtk25_) (ml_ v3_ xrhaqhtk11_))) (le_ (ad_ (ml_ v2_ xrhaqhtk25_) (ml_ v3_ xrhaqhtk11_)) lM_))
 (.need (le_ (wr_ (sb_ (.lit 0) v4_)) v4_)
 (.ret (.tup (.cons (.agg (.cons (.int .i64 (.iapp 26 (.cons (.int .i64 (.iapp 32 (.cons (.int .i64 (ad_ (ml_ v2_ xrhaqhtk25_) (ml_ v3_ xrhaqhtk11_))) (.cons (.int .i64 (.lit 1024)) .nil)))) (.cons (.int .i64 (wr_ (sb_ (.lit 0) v4_))) (.cons z4_ .nil))))) (.cons (.int .i64 xrhaqhtk11_) .nil))) (.cons (.int .i64 (.lit 0)) .nil)))))))))
abbrev hac_rstepv : Con := ⟨47, [(.agg (.cons z0_ (.cons z1_ .nil))), (.agg (.cons z2_ (.cons z3_ .nil))), z4_, z5_], (an_ (eq_ (.iapp 35 (.cons z2_ (.cons z3_ (.cons z4_ .nil)))) (.lit 0)) (an_ (an_ (le_ lm_ v5_) (le_ v5_ lM_)) (an_ (le_ lm_ v1_) (le_ v1_ lM_)))), (.tup (.cons (.agg (.cons (.int .i64 (.iapp 41 (.cons z2_ (.cons z3_ (.cons z4_ (.cons z1_ (.cons z5_ .nil))))))) (.cons (.int .i64 (.iapp 36 (.cons z1_ (.cons z5_ .nil)))) .nil))) (.cons (.int .i64 (.lit 0)) .nil))), ⟨6, 0, 0, 0⟩, none⟩
theorem rstepv_w : walk Tryz.prog 94 ⟨[hac_rmay16, yhc_rdiv1024, yhc_rclamp, hac_rpullv], syG, [], [], []⟩ [] .v hac_rstepv hac_rstepv.n 3000 = some rstepv_tree := by kernel_rfl
theorem rstepv_h (sf ss p q l o : Int) : Hyp_ hac_rstepv rstepv_tree (haE [sf, ss, p, q, l, o] [] [] []) := by
 intro hc hty
 simp only [hac_rstepv, Sy.holds, haE, denV, denI, denB, denL, I2.den, VOp.den, List.getD_cons_zero, List.getD_cons_succ, Cst.den, syso, syse, syio, sybo, hai_sve, B2.ofInts, B2.denI, B2.denB, if_true, Bool.false_eq_true, if_false, Nat.div_one, Nat.mul_one, Nat.add_zero] at hc
 simp only [hac_rstepv, patsTyp, patTyp, patTypL, haE, denV, denL, List.getD_cons_zero, List.getD_cons_succ, and_true, true_and] at hty
 unfold rstepv_tree
 simp only [hac_rstepv, Tree.holds, Sy.holds, haE, denV, denI, denB, denL, I2.den, VOp.den, List.getD_cons_zero, List.getD_cons_succ, Cst.den, syso, syse, syio, sybo, hai_cl, hai_dv, hai_sve, hai_sts, hai_stf, B2.ofInts, B2.denI, B2.denB, if_true, Bool.false_eq_true, if_false, Nat.div_one, Nat.mul_one, Nat.add_zero]
 have hsv := sv_spec p q l
 have hso := sv_spec p q 0
 have c1 := cl_spec ss (-1048576) 1048576
 have r1 := stO_rng o
 have r2 := stS_rng ss o
 have e1 : clI (o / 1024) (-1048576) 1048576 = stO o := rfl
 simp only [e1]
 have w1 : IntKind.wrap .i64 (clI ss (-1048576) 1048576 + stO o) = clI ss (-1048576) 1048576 + stO o := by have := wr_i64 (clI ss (-1048576) 1048576 + stO o); omega
 have e2 : clI (clI ss (-1048576) 1048576 + stO o) (-1048576) 1048576 = stS ss o := rfl
 simp only [w1, e2]
 have wl : IntKind.wrap .i64 (0 - l) = -l := by have := wr_i64 (0 - l); omega
 simp only [wl]
 have e3 : clI ((p * stO o + q * stS ss o) / 1024) (-l) l = stF p q l ss o := rfl
 simp only [e3]
 refine ⟨fun h0 => ?_, fun h0 => ?_⟩
 ·
  first
  | exact True.intro
  | (exfalso; omega)
  | rfl
  | skip
 refine ⟨?_, fun h1 => ?_⟩
 refine ?a0; rotate_left
 refine ⟨?_, fun h2 => ?_⟩
 refine ?a1; rotate_left
 refine ⟨?_, fun h3 => ?_⟩
 refine ?a2; rotate_left
 refine ⟨?_, fun h4 => ?_⟩
 refine ?a3; rotate_left
 ·
  first
  | exact True.intro
  | (exfalso; omega)
  | rfl
  | skip
 case a0 | a1 | a2 | a3 =>
  first
  | exact True.intro
  | omega
  | (have b1 := mul_bd (p := p) (a := stO o) (by omega) (by omega) (by omega) (by omega)
     have b2 := mul_bd (p := q) (a := stS ss o) (by omega) (by omega) (by omega) (by omega)
     omega)
  | skip
theorem hag_rstepv : hac_rstepv.Good Tryz.prog syG (haE [] [] [] []) := good_of_walk (Γ := ⟨[hac_rmay16, yhc_rdiv1024, yhc_rclamp, hac_rpullv], syG, [], [], []⟩) (ρ := haE [] [] [] []) sym rstepv_w rfl (fun _ _ _ _ => (ok_cons (Con.Good.env hag_rmay16 _ _ _ _) (ok_cons (Con.Good.env (Con.Good.up (Con.Good.up (Con.Good.up (Con.Good.up yhg_rdiv1024 yiup rfl) yjup rfl) ykup rfl) haup rfl) _ _ _ _) (ok_cons (Con.Good.env (Con.Good.up (Con.Good.up (Con.Good.up (Con.Good.up yhg_rclamp yiup rfl) yjup rfl) ykup rfl) haup rfl) _ _ _ _) (ok_cons (Con.Good.env hag_rpullv _ _ _ _) ok_nil))))) rstepv_h
def rtime18_tree : Tree :=
 (.br (lt_ (.lit (-4611686018427387904)) v0_)
 (.ret (.bool (lt_ v0_ (.lit 4611686018427387904))))
 (.ret (.bool (.tt false))))
abbrev hac_rtime18 : Con := ⟨54, [z0_], (.tt true), (.bool (an_ (lt_ (.lit (-4611686018427387904)) v0_) (lt_ v0_ (.lit 4611686018427387904)))), ⟨1, 0, 0, 0⟩, none⟩
theorem rtime18_w : walk Tryz.prog 94 ⟨[], syG, [], [], []⟩ [] .v hac_rtime18 hac_rtime18.n 3000 = some rtime18_tree := by kernel_rfl
theorem rtime18_h (t : Int) : Hyp_ hac_rtime18 rtime18_tree (haE [t] [] [] []) := by
 intro hc hty
 simp only [hac_rtime18, Sy.holds, haE, denV, denI, denB, denL, I2.den, VOp.den, List.getD_cons_zero, List.getD_cons_succ, Cst.den, syso, syse, syio, sybo, B2.ofInts, B2.denI, B2.denB, if_true, Bool.false_eq_true, if_false, Nat.div_one, Nat.mul_one, Nat.add_zero] at hc
 simp only [hac_rtime18, patsTyp, patTyp, patTypL, haE, denV, denL, List.getD_cons_zero, List.getD_cons_succ, and_true, true_and] at hty
 unfold rtime18_tree
 simp only [hac_rtime18, Tree.holds, Sy.holds, haE, denV, denI, denB, denL, I2.den, VOp.den, List.getD_cons_zero, List.getD_cons_succ, Cst.den, syso, syse, syio, sybo, B2.ofInts, B2.denI, B2.denB, if_true, Bool.false_eq_true, if_false, Nat.div_one, Nat.mul_one, Nat.add_zero]
 refine ⟨fun h0 => ?_, fun h0 => ?_⟩
 refine ?a0; rotate_left
 refine ?a1; rotate_left
 case a0 | a1 =>
  refine congrArg Value.bool ?_
  first
  | (simp only [Bool.and_eq_true, decide_eq_true_eq]; omega)
  | (refine Bool.eq_iff_iff.2 ?_; simp only [decide_eq_true_eq, Bool.and_eq_true, Bool.false_eq_true, false_iff, true_iff]; omega)
  | skip
theorem hag_rtime18 : hac_rtime18.Good Tryz.prog syG (haE [] [] [] []) := good_of_walk (Γ := ⟨[], syG, [], [], []⟩) (ρ := haE [] [] [] []) sym rtime18_w rfl (fun _ _ _ _ => ok_nil) rtime18_h
def rmay18_tree : Tree :=
 (.need xrhaqhtk26_
 (.br (.not (.bapp 0 (.cons (.int .u32 v0_) (.cons z1_ .nil))))
 (.ret (.bool (.tt false)))
 (.br (lt_ v2_ (.lit 0))
 (.ret (.bool (.tt false)))
 (.br (lt_ (.lit 1048576) v2_)
 (.ret (.bool (.tt false)))
 (.br (.not xrhaqhtk43_)
 (.ret (.bool (.tt false)))
 (.br (lt_ v6_ (.lit 1))
 (.ret (.bool (.tt false)))
 (.br (lt_ (.lit 1125899906842624) v6_)
 (.ret (.bool (.tt false)))
 (.br (lt_ (.var 10) (wr_ (sb_ (.lit 0) v5_)))
 (.ret (.bool (.tt false)))
 (.br (lt_ v5_ (.var 10))
 (.ret (.bool (.tt false)))
 (.br (lt_ (.var 11) (.lit (-1048576)))
 (.ret (.bool (.tt false)))
 (.br (lt_ (.lit 1048576) (.var 11))
 (.ret (.bool (.tt false)))
 (.br (le_ (.lit 0) v7_)
 (.br (le_ v7_ (.lit 1152921504606846976))
 (.br (an_ (lt_ (.lit (-4611686018427387904)) v8_) (lt_ v8_ (.lit 4611686018427387904)))
 (.br (le_ (.lit 0) v9_)
 (.ret (.bool (le_ v9_ (.lit 2305843009213693952))))
 (.ret (.bool (.tt false))))
 (.ret (.bool (.tt false))))
 (.ret (.bool (.tt false))))
 (.ret (.bool (.tt false)))))))))))))))
abbrev hac_rmay18 : Con := ⟨14, [xrhaqhtk9_], xrhaqhtk1_, (.bool (.bapp 4 (.cons xrhaqhtk0_ .nil))), ⟨12, 1, 0, 0⟩, none⟩
theorem rmay18_w : walk Tryz.prog 94 ⟨[yac_rfmay, hac_rmay16, hac_rtime18], syG, [], [], []⟩ [] .v hac_rmay18 hac_rmay18.n 3000 = some rmay18_tree := by kernel_rfl
theorem rmay18_h (rm rs rr gp gi rl ro hb ht he sf ss : Int) (sy : Bool) : Hyp_ hac_rmay18 rmay18_tree (haE [rm, rs, rr, gp, gi, rl, ro, hb, ht, he, sf, ss] [sy] [] []) := by
 intro hc hty
 simp only [hac_rmay18, Sy.holds, haE, denV, denI, denB, denL, I2.den, VOp.den, List.getD_cons_zero, List.getD_cons_succ, Cst.den, syso, syse, syio, sybo, B2.ofInts, B2.denI, B2.denB, if_true, Bool.false_eq_true, if_false, Nat.div_one, Nat.mul_one, Nat.add_zero] at hc
 simp only [hac_rmay18, patsTyp, patTyp, patTypL, haE, denV, denL, List.getD_cons_zero, List.getD_cons_succ, and_true, true_and] at hty
 unfold rmay18_tree
 simp only [hac_rmay18, Tree.holds, Sy.holds, haE, denV, denI, denB, denL, I2.den, VOp.den, List.getD_cons_zero, List.getD_cons_succ, Cst.den, syso, syse, syio, sybo, hai_sve, hab_fm, hab_hm, B2.ofInts, B2.denI, B2.denB, if_true, Bool.false_eq_true, if_false, Nat.div_one, Nat.mul_one, Nat.add_zero]
 have hsv := sv_spec gp gi rl
 have wl : IntKind.wrap .i64 (0 - rl) = -rl ∨ rl < -9223372036854775807 := by have := wr_i64 (0 - rl); omega
 refine ⟨?_, fun h0 => ?_⟩
 ·
  first
  | omega
  | exact True.intro
 refine ⟨fun h1 => ?_, fun h1 => ?_⟩
 refine ?a0; rotate_left
 refine ⟨fun h2 => ?_, fun h2 => ?_⟩
 refine ?a1; rotate_left
 refine ⟨fun h3 => ?_, fun h3 => ?_⟩
 refine ?a2; rotate_left
 refine ⟨fun h4 => ?_, fun h4 => ?_⟩
 refine ?a3; rotate_left
 refine ⟨fun h5 => ?_, fun h5 => ?_⟩
 refine ?a4; rotate_left
 refine ⟨fun h6 => ?_, fun h6 => ?_⟩
 refine ?a5; rotate_left
 have wf0 := wr_i64 (0 - rl)
 refine ⟨fun h7 => ?_, fun h7 => ?_⟩
 refine ?a6; rotate_left
 refine ⟨fun h8 => ?_, fun h8 => ?_⟩
 refine ?a7; rotate_left
 refine ⟨fun h9 => ?_, fun h9 => ?_⟩
 refine ?a8; rotate_left
 refine ⟨fun h10 => ?_, fun h10 => ?_⟩
 refine ?a9; rotate_left
 refine ⟨fun h11 => ?_, fun h11 => ?_⟩
 refine ⟨fun h12 => ?_, fun h12 => ?_⟩
 refine ⟨fun h13 => ?_, fun h13 => ?_⟩
 refine ⟨fun h14 => ?_, fun h14 => ?_⟩
 refine ?a10; rotate_left
 refine ?a11; rotate_left
 refine ?a12; rotate_left
 refine ?a13; rotate_left
 refine ?a14; rotate_left
 case a0 | a1 | a2 | a3 | a4 | a5 | a6 | a7 | a8 | a9 | a10 | a11 | a12 | a13 | a14 =>
  by_cases hp : hoP rm rs rr gp gi rl ro hb ht he sf ss
  · have hT : hoB (Sy.rows (hoT rm rs rr gp gi rl ro hb ht he sf ss sy)) = true := decide_eq_true hp
    rw [hT]
    obtain ⟨f, a1, a2, a3, a4, a5, a6, a7, a8, a9, a10, a11, a12, a13, a14, a15, a16, a17, a18, a19, a20⟩ := id hp
    first
    | (exfalso; omega)
    | rfl
    | exact absurd (decide_eq_true f) (by assumption)
    | (refine congrArg Value.bool ?_
       simp only [decide_eq_true_eq, Bool.and_eq_true]
       omega)
    | skip
  · have hT : hoB (Sy.rows (hoT rm rs rr gp gi rl ro hb ht he sf ss sy)) = false := decide_eq_false hp
    rw [hT]
    first
    | rfl
    | (exfalso
       have f : fmP rm rs := of_decide_eq_true (by first | assumption | exact Decidable.of_not_not (by assumption))
       exact hp ⟨f, by omega, by omega, by omega, by omega, by omega, by omega, by omega, by omega, by omega, by omega, by omega, by omega, by omega, by omega, by omega, by omega, by omega, by omega, by omega, by omega⟩)
    | (refine congrArg Value.bool ?_
       have f : fmP rm rs := of_decide_eq_true (by first | assumption | exact Decidable.of_not_not (by assumption))
       simp only [decide_eq_false_iff_not, Bool.and_eq_false_iff]
       apply Decidable.byContradiction
       intro hn
       exact hp ⟨f, by omega, by omega, by omega, by omega, by omega, by omega, by omega, by omega, by omega, by omega, by omega, by omega, by omega, by omega, by omega, by omega, by omega, by omega, by omega, by omega⟩)
    | skip
theorem hag_rmay18 : hac_rmay18.Good Tryz.prog syG (haE [] [] [] []) := good_of_walk (Γ := ⟨[yac_rfmay, hac_rmay16, hac_rtime18], syG, [], [], []⟩) (ρ := haE [] [] [] []) sym rmay18_w rfl (fun _ _ _ _ => (ok_cons (Con.Good.env (Con.Good.up (Con.Good.up (Con.Good.up (Con.Good.up (Con.Good.up (Con.Good.up (Con.Good.up yag_rfmay ybup rfl) ycup rfl) yhup rfl) yiup rfl) yjup rfl) ykup rfl) haup rfl) _ _ _ _) (ok_cons (Con.Good.env hag_rmay16 _ _ _ _) (ok_cons (Con.Good.env hag_rtime18 _ _ _ _) ok_nil)))) rmay18_h
def rreck_tree : Tree :=
 (.br (lt_ (.var 12) v7_)
 (.ret (.tup (.cons (.int .i64 (.lit 0)) (.cons (.int .i64 (.lit 0)) (.cons (.int .i64 (.lit 10)) .nil)))))
 (.need (an_ xrhaqhtk24_ (an_ (le_ lm_ v7_) (le_ v7_ lM_)))
 (.br (.not (eq_ (.iapp 4 (.cons (.int .i64 (sb_ (.var 12) v7_)) .nil)) (.lit 0)))
 (.ret xrhaqhtk41_)
 (.br (lt_ (.lit 1125899906842624) xrhaqhtk19_)
 (.ret xrhaqhtk41_)
 (.need (an_ xrhaqhtk26_ (an_ (le_ lm_ (.var 10)) (le_ (.var 10) lM_)))
 (.br (.not (eq_ xrhaqhtk40_ (.lit 0)))
 (.ret (.tup (.cons (.int .i64 (.lit 0)) (.cons (.int .i64 (.lit 0)) (.cons (.int .i64 xrhaqhtk40_) .nil)))))
 (.need (an_ (an_ (an_ (le_ (.lit 0) xrhaqhtk23_) (le_ xrhaqhtk23_ (.lit 4294967295))) (an_ (le_ lm_ xrhaqhtk22_) (le_ xrhaqhtk22_ lM_))) (an_ (.bapp 0 (.cons (.int .u32 xrhaqhtk23_) (.cons (.int .i64 xrhaqhtk22_) .nil))) (an_ (le_ lm_ xrhaqhtk19_) (le_ xrhaqhtk19_ lM_))))
 (.br (.not (eq_ (.iapp 9 (.cons (.int .i64 xrhaqhtk19_) (.cons (.int .u32 xrhaqhtk23_) (.cons (.int .i64 xrhaqhtk22_) .nil)))) (.lit 0)))
 (.ret (.tup (.cons (.int .i64 (.lit 0)) (.cons (.int .i64 (.lit 0)) (.cons (.int .i64 (.iapp 9 (.cons (.int .i64 xrhaqhtk19_) (.cons (.int .u32 xrhaqhtk23_) (.cons (.int .i64 xrhaqhtk22_) .nil))))) .nil)))))
 (.need (an_ (an_ (le_ lm_ v8_) (le_ v8_ lM_)) (an_ (le_ lm_ xrhaqhtk13_) (le_ xrhaqhtk13_ lM_)))
 (.br (.not (eq_ (.iapp 4 (.cons (.int .i64 (ad_ v8_ xrhaqhtk13_)) .nil)) (.lit 0)))
 (.ret xrhaqhtk41_)
 (.br (.not (an_ (lt_ (.lit (-4611686018427387904)) (.iapp 2 (.cons (.int .i64 (ad_ v8_ xrhaqhtk13_)) .nil))) (lt_ (.iapp 2 (.cons (.int .i64 (ad_ v8_ xrhaqhtk13_)) .nil)) (.lit 4611686018427387904))))
 (.ret xrhaqhtk41_)
 (.need (an_ xrhaqhtk26_ (an_ (.bapp 0 (.cons (.int .u32 v0_) (.cons z1_ .nil))) (an_ (le_ lm_ xrhaqhtk19_) (le_ xrhaqhtk19_ lM_))))
 (.br (.not (eq_ (.iapp 9 (.cons (.int .i64 xrhaqhtk19_) (.cons (.int .u32 v0_) (.cons z1_ .nil)))) (.lit 0)))
 (.ret (.tup (.cons (.int .i64 (.lit 0)) (.cons (.int .i64 (.lit 0)) (.cons (.int .i64 (.iapp 9 (.cons (.int .i64 xrhaqhtk19_) (.cons (.int .u32 v0_) (.cons z1_ .nil))))) .nil)))))
 (.need (an_ (le_ lm_ (.iapp 8 (.cons (.int .i64 xrhaqhtk19_) (.cons (.int .u32 v0_) (.cons z1_ .nil))))) (le_ (.iapp 8 (.cons (.int .i64 xrhaqhtk19_) (.cons (.int .u32 v0_) (.cons z1_ .nil)))) lM_))
 (.br (lt_ (.var 10) (.lit 0))
 (.need (an_ (le_ (.lit 0) v9_) (an_ (le_ v9_ (.lit 2305843009213693952)) (an_ (le_ (.lit 0) (wr_ (sb_ v2_ (.var 10)))) (an_ (le_ (wr_ (sb_ v2_ (.var 10))) (.lit 2097152)) (an_ (le_ (.lit 0) xrhaqhtk6_) (le_ xrhaqhtk6_ lM_))))))
 (.need (an_ xrhaqhtk26_ (an_ (.bapp 0 (.cons (.int .u32 v0_) (.cons z1_ .nil))) (an_ (le_ (.lit 0) xrhaqhtk19_) (le_ xrhaqhtk19_ (.lit 1125899906842624)))))
 (.need (an_ (an_ (le_ lm_ xrhaqhtk35_) (le_ xrhaqhtk35_ lM_)) (an_ (le_ lm_ xrhaqhtk28_) (le_ xrhaqhtk28_ lM_)))
 (.ret (.tup (.cons (.int .i64 (.iapp 2 (.cons (.int .i64 (ad_ v8_ xrhaqhtk13_)) .nil))) (.cons (.int .i64 (.iapp 5 (.cons (.int .i64 (.iapp 2 (.cons (.int .i64 (ad_ xrhaqhtk35_ xrhaqhtk28_)) .nil))) (.cons (.int .i64 (.iapp 4 (.cons (.int .i64 (ad_ xrhaqhtk35_ xrhaqhtk28_)) .nil))) .nil)))) (.cons (.int .i64 (.lit 0)) .nil))))))))
 (.need (an_ (le_ (.lit 0) v9_) (an_ (le_ v9_ (.lit 2305843009213693952)) (an_ (le_ (.lit 0) (wr_ (ad_ v2_ (.var 10)))) (an_ (le_ (wr_ (ad_ v2_ (.var 10))) (.lit 2097152)) (an_ (le_ (.lit 0) xrhaqhtk6_) (le_ xrhaqhtk6_ lM_))))))
 (.need (an_ xrhaqhtk26_ (an_ (.bapp 0 (.cons (.int .u32 v0_) (.cons z1_ .nil))) (an_ (le_ (.lit 0) xrhaqhtk19_) (le_ xrhaqhtk19_ (.lit 1125899906842624)))))
 (.need (an_ (an_ (le_ lm_ xrhaqhtk36_) (le_ xrhaqhtk36_ lM_)) (an_ (le_ lm_ xrhaqhtk28_) (le_ xrhaqhtk28_ lM_)))
 (.ret (.tup (.cons (.int .i64 (.iapp 2 (.cons (.int .i64 (ad_ v8_ xrhaqhtk13_)) .nil))) (.cons (.int .i64 (.iapp 5 (.cons (.int .i64 (.iapp 2 (.cons (.int .i64 (ad_ xrhaqhtk36_ xrhaqhtk28_)) .nil))) (.cons (.int .i64 (.iapp 4 (.cons (.int .i64 (ad_ xrhaqhtk36_ xrhaqhtk28_)) .nil))) .nil)))) (.cons (.int .i64 (.lit 0)) .nil)))))))))))))))))))))))
abbrev hac_rreck : Con := ⟨36, [xrhaqhtk9_, (.int .i64 (.var 12))], (an_ xrhaqhtk1_ (an_ (.bapp 4 (.cons xrhaqhtk0_ .nil)) xrhaqhtk24_)), (.tup (.cons (.int .i64 xrhaqhtk7_) (.cons (.int .i64 xrhaqhtk17_) (.cons (.int .i64 xrhaqhtk34_) .nil)))), ⟨13, 1, 0, 0⟩, none⟩
theorem rreck_w : walk Tryz.prog 94 ⟨[yhc_rless, yhc_radjust, yac_rscale, yac_rsum, hac_rtime18, yac_rbound, yac_rgrow, yac_roff], syG, [], [], []⟩ [] .v hac_rreck hac_rreck.n 3000 = some rreck_tree := by kernel_rfl
set_option maxHeartbeats 4000000 in
theorem rreck_h (rm rs rr gp gi rl ro hb ht he sf ss k : Int) (sy : Bool) : Hyp_ hac_rreck rreck_tree (haE [rm, rs, rr, gp, gi, rl, ro, hb, ht, he, sf, ss, k] [sy] [] []) := by
 intro hc hty
 simp only [hac_rreck, Sy.holds, haE, denV, denI, denB, denL, I2.den, VOp.den, List.getD_cons_zero, List.getD_cons_succ, Cst.den, syso, syse, syio, sybo, hab_hm, B2.ofInts, B2.denI, B2.denB, if_true, Bool.false_eq_true, if_false, Nat.div_one, Nat.mul_one, Nat.add_zero] at hc
 simp only [hac_rreck, patsTyp, patTyp, patTypL, haE, denV, denL, List.getD_cons_zero, List.getD_cons_succ, and_true, true_and] at hty
 unfold rreck_tree
 simp only [hac_rreck, Tree.holds, Sy.holds, haE, denV, denI, denB, denL, I2.den, VOp.den, List.getD_cons_zero, List.getD_cons_succ, Cst.den, syso, syse, syio, sybo, hai_sa, hai_nv, hai_so, hai_bd, hai_msn, hai_mse, hai_up, hai_hv, hai_ada, hai_ads, hai_ade, hai_rke, hai_rkt, hai_rko, hab_fm, B2.ofInts, B2.denI, B2.denB, if_true, Bool.false_eq_true, if_false, Nat.div_one, Nat.mul_one, Nat.add_zero]
 have hp : hoP rm rs rr gp gi rl ro hb ht he sf ss := of_decide_eq_true hc.2.1
 obtain ⟨f, a1, a2, a3, a4, a5, a6, a7, a8, a9, a10, a11, a12, a13, a14, a15, a16, a17, a18, a19, a20⟩ := id hp
 simp only [rkE_eq, rkT_eq, rkO_eq]
 have hk := rk_spec rm rs rr hb ht he sf k
 have had := ad_spec rm rs sf
 have had2 : adE rm rs sf ≠ 0 → adE rm rs sf = 2 := fun h => by rcases had with ⟨x, _⟩ | ⟨_, _, had⟩ <;> first | exact absurd f x | omega
 have hr := ad_rngs rm rs sf hc.1.1 hc.1.2.1
 have hpb := pabs_spec sf
 by_cases hkb : k < hb
 all_goals
  have sv := svE_spec (k - hb)
  try have hm2 := ms_spec f (show 0 ≤ k - hb from Int.sub_nonneg_of_le (Int.not_lt.1 hkb))
  try have hh := hv_bd (n := k - hb) (s := rs) (Int.sub_nonneg_of_le (Int.not_lt.1 hkb))
  have hm := ms_ad rm rs sf (k - hb)
  have e1 : k < hb ∨ (svE (k - hb) = k - hb ∧ soE (k - hb) = 0) := by omega
  try simp only [(e1.resolve_left hkb).1, (e1.resolve_left hkb).2]
  have s1 := satE_spec (msN (k - hb) rm rs + 1)
  have s2 := satE_spec (he + upK (satE (msN (k - hb) rm rs + 1) * IntKind.wrap .i64 (rr - sf)))
  have s3 := satE_spec (he + upK (satE (msN (k - hb) rm rs + 1) * IntKind.wrap .i64 (rr + sf)))
  have w1 := wr_i64 (rr - sf)
  have w2 := wr_i64 (rr + sf)
  have w3 := wr_i64 ((k - hb) / 2 ^ rs.toNat + 2 + 2)
  have sv2 := svE_spec (ht + msN (k - hb) (adA rm rs sf) (adS rm rs sf))
  refine ⟨fun h0 => ?_, fun h0 => ?_⟩
  rotate_left
  refine ⟨?_, fun h1 => ?_⟩
  rotate_left
  refine ⟨fun h2 => ?_, fun h2 => ?_⟩
  rotate_left
  refine ⟨fun h3 => ?_, fun h3 => ?_⟩
  rotate_left
  refine ⟨?_, fun h4 => ?_⟩
  rotate_left
  refine ⟨fun h5 => ?_, fun h5 => ?_⟩
  rotate_left
  refine ⟨?_, fun h6 => ?_⟩
  rotate_left
  refine ⟨fun h7 => ?_, fun h7 => ?_⟩
  rotate_left
  refine ⟨?_, fun h8 => ?_⟩
  rotate_left
  refine ⟨fun h9 => ?_, fun h9 => ?_⟩
  rotate_left
  refine ⟨fun h10 => ?_, fun h10 => ?_⟩
  rotate_left
  refine ⟨?_, fun h11 => ?_⟩
  rotate_left
  refine ⟨fun h12 => ?_, fun h12 => ?_⟩
  rotate_left
  refine ⟨?_, fun h13 => ?_⟩
  rotate_left
  refine ⟨fun h14 => ?_, fun h14 => ?_⟩
  refine ⟨?_, fun h15 => ?_⟩
  rotate_left
  refine ⟨?_, fun h16 => ?_⟩
  rotate_left
  refine ⟨?_, fun h17 => ?_⟩
  rotate_left
  rotate_left
  refine ⟨?_, fun h18 => ?_⟩
  rotate_left
  refine ⟨?_, fun h19 => ?_⟩
  rotate_left
  refine ⟨?_, fun h20 => ?_⟩
  rotate_left
  rotate_left
 all_goals first
 | exact True.intro
 | (show @Eq Value _ _
    try simp only [bd_sat]
    try exact absurd True.intro (by assumption)
    all_goals rcases hk with ⟨z0, z1, z2, z3⟩ | ⟨z0, z1, z2, z3⟩ | ⟨z0, z1, z2, z3⟩
    all_goals first
    | (exfalso; omega)
    | (rw [z1, z2, z3]; first | done | rfl)
    | (rw [z1, z2, z3, had2 (by assumption)]; first | done | rfl)
    | (rcases hm with hm | hm | ⟨c0, c1, c2, ⟨m1, m2, m3⟩ | ⟨m1, m2, m3⟩⟩ <;> rcases hm2 with ⟨d0, ⟨n1, n2, n3⟩ | ⟨n1, n2, n3⟩⟩
       all_goals first
       | (exfalso; omega)
       | (rw [z1, z2, z3, m1]; first | done | rfl)
       | (rw [z1, z2, z3, n1]; first | done | rfl)
       | (rw [m2] at sv2
          rw [m2, n2]
          have hp1 := pabs_spec sf
          have hx := bn_ref (he := he) (p := rr + pabs sf) (show 0 ≤ k - hb by omega) d0 hh.1 (by omega) (by omega)
          have e5 : IntKind.wrap .i64 ((k - hb) / 2 ^ rs.toNat + 2 + 2) = (k - hb) / 2 ^ rs.toNat + 2 + 2 := by omega
          have e8 : svE (ht + qE (adF rm sf) rs (k - hb)) = ht + qE (adF rm sf) rs (k - hb) := by omega
          rw [z1, z2, z3, e5, e8]
          first
          | (rw [show IntKind.wrap .i64 (rr - sf) = rr + pabs sf by omega, hx]; first | done | rfl)
          | (rw [show IntKind.wrap .i64 (rr + sf) = rr + pabs sf by omega, hx]; first | done | rfl)
          | skip))
    | skip
    done)
 | (skip
    first
    | exact True.intro
    | omega
    | exact hc.1
    | exact ⟨⟨hr.1, hr.2⟩, ad_fm2 (by assumption), by omega⟩
    | (refine ⟨⟨hr.1, hr.2⟩, ad_fm2 (by omega), ?_⟩; omega)
    | (refine ⟨⟨hc.1.1, hc.1.2.1⟩, decide_eq_true f, ?_⟩; omega)
    | (simp only [bd_sat]; omega)
    | (rcases hm with hm | hm | ⟨c0, c1, c2, ⟨m1, m2, m3⟩ | ⟨m1, m2, m3⟩⟩ <;> first | omega | (rw [m2]; omega))
    | (rcases hm2 with ⟨c0, ⟨m1, m2, m3⟩ | ⟨m1, m2, m3⟩⟩ <;> first | omega | (rw [m2]; omega))
    | skip
    done)
theorem hag_rreck : hac_rreck.Good Tryz.prog syG (haE [] [] [] []) := good_of_walk (Γ := ⟨[yhc_rless, yhc_radjust, yac_rscale, yac_rsum, hac_rtime18, yac_rbound, yac_rgrow, yac_roff], syG, [], [], []⟩) (ρ := haE [] [] [] []) sym rreck_w rfl (fun _ _ _ _ => (ok_cons (Con.Good.env (Con.Good.up (Con.Good.up (Con.Good.up (Con.Good.up yhg_rless yiup rfl) yjup rfl) ykup rfl) haup rfl) _ _ _ _) (ok_cons (Con.Good.env (Con.Good.up (Con.Good.up (Con.Good.up (Con.Good.up yhg_radjust yiup rfl) yjup rfl) ykup rfl) haup rfl) _ _ _ _) (ok_cons (Con.Good.env (Con.Good.up (Con.Good.up (Con.Good.up (Con.Good.up (Con.Good.up (Con.Good.up (Con.Good.up yag_rscale ybup rfl) ycup rfl) yhup rfl) yiup rfl) yjup rfl) ykup rfl) haup rfl) _ _ _ _) (ok_cons (Con.Good.env (Con.Good.up (Con.Good.up (Con.Good.up (Con.Good.up (Con.Good.up (Con.Good.up (Con.Good.up yag_rsum ybup rfl) ycup rfl) yhup rfl) yiup rfl) yjup rfl) ykup rfl) haup rfl) _ _ _ _) (ok_cons (Con.Good.env hag_rtime18 _ _ _ _) (ok_cons (Con.Good.env (Con.Good.up (Con.Good.up (Con.Good.up (Con.Good.up (Con.Good.up (Con.Good.up (Con.Good.up yag_rbound ybup rfl) ycup rfl) yhup rfl) yiup rfl) yjup rfl) ykup rfl) haup rfl) _ _ _ _) (ok_cons (Con.Good.env (Con.Good.up (Con.Good.up (Con.Good.up (Con.Good.up (Con.Good.up (Con.Good.up (Con.Good.up yag_rgrow ybup rfl) ycup rfl) yhup rfl) yiup rfl) yjup rfl) ykup rfl) haup rfl) _ _ _ _) (ok_cons (Con.Good.env (Con.Good.up (Con.Good.up (Con.Good.up (Con.Good.up (Con.Good.up (Con.Good.up (Con.Good.up yag_roff ybup rfl) ycup rfl) yhup rfl) yiup rfl) yjup rfl) ykup rfl) haup rfl) _ _ _ _) ok_nil))))))))) rreck_h
def rset18_tree : Tree :=
 (.need (an_ (le_ (.var 13) (.var 14)) xrhaqhtk33_)
 (.ret xrhaqhtk14_))
abbrev hac_rset18 : Con := ⟨44, [xrhaqhtk9_, (.int .i64 (.var 12)), xrhaqhtk39_], xrhaqhtk18_, xrhaqhtk14_, ⟨15, 1, 0, 0⟩, none⟩
theorem rset18_w : walk Tryz.prog 94 ⟨[yhc_rmid], syG, [], [], []⟩ [] .v hac_rset18 hac_rset18.n 3000 = some rset18_tree := by kernel_rfl
theorem rset18_h (rm rs rr gp gi rl ro hb ht he sf ss k a b : Int) (sy : Bool) : Hyp_ hac_rset18 rset18_tree (haE [rm, rs, rr, gp, gi, rl, ro, hb, ht, he, sf, ss, k, a, b] [sy] [] []) := by
 intro hc hty
 simp only [hac_rset18, Sy.holds, haE, denV, denI, denB, denL, I2.den, VOp.den, List.getD_cons_zero, List.getD_cons_succ, Cst.den, syso, syse, syio, sybo, B2.ofInts, B2.denI, B2.denB, if_true, Bool.false_eq_true, if_false, Nat.div_one, Nat.mul_one, Nat.add_zero] at hc
 simp only [hac_rset18, patsTyp, patTyp, patTypL, haE, denV, denL, List.getD_cons_zero, List.getD_cons_succ, and_true, true_and] at hty
 unfold rset18_tree
 simp only [hac_rset18, Tree.holds, Sy.holds, haE, denV, denI, denB, denL, I2.den, VOp.den, List.getD_cons_zero, List.getD_cons_succ, Cst.den, syso, syse, syio, sybo, hai_sa, hai_mi, B2.ofInts, B2.denI, B2.denB, if_true, Bool.false_eq_true, if_false, Nat.div_one, Nat.mul_one, Nat.add_zero]
 refine ⟨?_, fun h0 => ?_⟩
 ·
  omega
 ·
  first
  | exact True.intro
  | rfl
  | skip
theorem hag_rset18 : hac_rset18.Good Tryz.prog syG (haE [] [] [] []) := good_of_walk (Γ := ⟨[yhc_rmid], syG, [], [], []⟩) (ρ := haE [] [] [] []) sym rset18_w rfl (fun _ _ _ _ => (ok_cons (Con.Good.env (Con.Good.up (Con.Good.up (Con.Good.up (Con.Good.up yhg_rmid yiup rfl) yjup rfl) ykup rfl) haup rfl) _ _ _ _) ok_nil)) rset18_h
def rnow18_tree : Tree :=
 (.need xrhaqhtk1_
 (.br xrhaqhtk46_
 (.ret xrhaqhtk32_)
 (.br (.not (.bvar 0))
 (.ret (.tup (.cons (.int .i64 (.lit 0)) (.cons (.int .i64 (.lit 0)) (.cons (.int .i64 (.lit 13)) .nil)))))
 (.need (an_ xrhaqhtk1_ (an_ (.bapp 4 (.cons xrhaqhtk0_ .nil)) xrhaqhtk24_))
 (.br (.not (eq_ xrhaqhtk34_ (.lit 0)))
 (.ret (.tup (.cons (.int .i64 (.lit 0)) (.cons (.int .i64 (.lit 0)) (.cons (.int .i64 xrhaqhtk34_) .nil)))))
 (.br (lt_ v6_ xrhaqhtk17_)
 (.ret (.tup (.cons (.int .i64 (.lit 0)) (.cons (.int .i64 (.lit 0)) (.cons (.int .i64 (.lit 13)) .nil)))))
 (.ret (.tup (.cons (.int .i64 xrhaqhtk7_) (.cons (.int .i64 xrhaqhtk17_) (.cons (.int .i64 (.lit 0)) .nil)))))))))))
abbrev hac_rnow18 : Con := ⟨8, [xrhaqhtk9_, (.int .i64 (.var 12))], (an_ xrhaqhtk1_ xrhaqhtk24_), (.tup (.cons (.int .i64 (.iapp 47 (.cons xrhaqhtk0_ (.cons (.int .i64 (.var 12)) .nil)))) (.cons (.int .i64 (.iapp 48 (.cons xrhaqhtk0_ (.cons (.int .i64 (.var 12)) .nil)))) (.cons (.int .i64 (.iapp 46 (.cons xrhaqhtk0_ (.cons (.int .i64 (.var 12)) .nil)))) .nil)))), ⟨13, 1, 0, 0⟩, none⟩
theorem rnow18_w : walk Tryz.prog 94 ⟨[hac_rmay18, hac_rreck], syG, [], [], []⟩ [] .v hac_rnow18 hac_rnow18.n 3000 = some rnow18_tree := by kernel_rfl
theorem rnow18_h (rm rs rr gp gi rl ro hb ht he sf ss k : Int) (sy : Bool) : Hyp_ hac_rnow18 rnow18_tree (haE [rm, rs, rr, gp, gi, rl, ro, hb, ht, he, sf, ss, k] [sy] [] []) := by
 intro hc hty
 simp only [hac_rnow18, Sy.holds, haE, denV, denI, denB, denL, I2.den, VOp.den, List.getD_cons_zero, List.getD_cons_succ, Cst.den, syso, syse, syio, sybo, B2.ofInts, B2.denI, B2.denB, if_true, Bool.false_eq_true, if_false, Nat.div_one, Nat.mul_one, Nat.add_zero] at hc
 simp only [hac_rnow18, patsTyp, patTyp, patTypL, haE, denV, denL, List.getD_cons_zero, List.getD_cons_succ, and_true, true_and] at hty
 unfold rnow18_tree
 simp only [hac_rnow18, Tree.holds, Sy.holds, haE, denV, denI, denB, denL, I2.den, VOp.den, List.getD_cons_zero, List.getD_cons_succ, Cst.den, syso, syse, syio, sybo, hai_rke, hai_rkt, hai_rko, hai_nwe, hai_nwt, hai_nwo, hab_hm, B2.ofInts, B2.denI, B2.denB, if_true, Bool.false_eq_true, if_false, Nat.div_one, Nat.mul_one, Nat.add_zero]
 simp only [nwE_eq, nwT_eq, nwO_eq, rkE_eq, rkT_eq, rkO_eq, hoB_eq]
 have hn := nw_spec rm rs rr gp gi rl ro hb ht he sf ss sy k
 refine ⟨?_, fun h0 => ?_⟩
 refine ?a0; rotate_left
 refine ⟨fun h1 => ?_, fun h1 => ?_⟩
 refine ?a1; rotate_left
 refine ⟨fun h2 => ?_, fun h2 => ?_⟩
 refine ?a2; rotate_left
 refine ⟨?_, fun h3 => ?_⟩
 refine ?a3; rotate_left
 refine ⟨fun h4 => ?_, fun h4 => ?_⟩
 refine ?a4; rotate_left
 refine ⟨fun h5 => ?_, fun h5 => ?_⟩
 refine ?a5; rotate_left
 refine ?a6; rotate_left
 case a0 | a3 =>
  first
  | omega
  | exact hc.1
  | (refine ⟨hc.1, ?_, hc.2⟩
     first
     | assumption
     | exact Decidable.of_not_not (by assumption))
  | skip
 case a1 | a2 | a4 | a5 | a6 =>
  rcases hn with ⟨⟨x, _⟩, z1, z2, z3⟩ | ⟨⟨x, _⟩, ⟨y, z1, z2, z3⟩ | ⟨⟨y, y1⟩, z1, z2, z3⟩ | ⟨⟨y, y1, y2⟩, z1, z2, z3⟩ | ⟨⟨y, y1, y2⟩, z1, z2, z3⟩⟩
  all_goals first
  | (exfalso; omega)
  | exact absurd (decide_eq_true x) (by assumption)
  | exact absurd (of_decide_eq_true (by assumption)) x
  | exact absurd (of_decide_eq_true (Decidable.of_not_not (by assumption))) x
  | (exfalso; simp only [y, not_true_eq_false, Bool.false_eq_true, not_false_eq_true] at *; done)
  | (rw [z1, z2, z3]; first | done | rfl)
  | skip
theorem hag_rnow18 : hac_rnow18.Good Tryz.prog syG (haE [] [] [] []) := good_of_walk (Γ := ⟨[hac_rmay18, hac_rreck], syG, [], [], []⟩) (ρ := haE [] [] [] []) sym rnow18_w rfl (fun _ _ _ _ => (ok_cons (Con.Good.env hag_rmay18 _ _ _ _) (ok_cons (Con.Good.env hag_rreck _ _ _ _) ok_nil))) rnow18_h
def hfacg_tree : Tree :=
 (.need xrhaqhtk1_
 (.br (.not (eq_ (.iapp 42 (.cons xrhaqhtk0_ .nil)) (.lit 0)))
 (.ret (.tup (.cons (.agg (.cons (.int .u32 (.lit 0)) (.cons (.int .i64 (.lit 0)) .nil))) (.cons (.err (.iapp 42 (.cons xrhaqhtk0_ .nil))) .nil))))
 (.need (an_ xrhaqhtk26_ (an_ (le_ lm_ (.var 10)) (le_ (.var 10) lM_)))
 (.ret (.tup (.cons (.agg (.cons (.int .u32 xrhaqhtk23_) (.cons (.int .i64 xrhaqhtk22_) .nil))) (.cons (.err xrhaqhtk40_) .nil)))))))
abbrev hac_hfacg : Con := ⟨12, [xrhaqhtk9_], xrhaqhtk1_, (.tup (.cons (.agg (.cons (.int .u32 xrhaqhtk37_) (.cons (.int .i64 xrhaqhtk38_) .nil))) (.cons (.err (.iapp 57 (.cons xrhaqhtk0_ .nil))) .nil))), ⟨12, 1, 0, 0⟩, none⟩
theorem hfacg_w : walk Tryz.prog 94 ⟨[yic_hcheck, yhc_adjust], syG, [], [], []⟩ [] .v hac_hfacg hac_hfacg.n 3000 = some hfacg_tree := by kernel_rfl
theorem hfacg_h (rm rs rr gp gi rl ro hb ht he sf ss : Int) (sy : Bool) : Hyp_ hac_hfacg hfacg_tree (haE [rm, rs, rr, gp, gi, rl, ro, hb, ht, he, sf, ss] [sy] [] []) := by
 intro hc hty
 simp only [hac_hfacg, Sy.holds, haE, denV, denI, denB, denL, I2.den, VOp.den, List.getD_cons_zero, List.getD_cons_succ, Cst.den, syso, syse, syio, sybo, B2.ofInts, B2.denI, B2.denB, if_true, Bool.false_eq_true, if_false, Nat.div_one, Nat.mul_one, Nat.add_zero] at hc
 simp only [hac_hfacg, patsTyp, patTyp, patTypL, haE, denV, denL, List.getD_cons_zero, List.getD_cons_succ, and_true, true_and] at hty
 unfold hfacg_tree
 simp only [hac_hfacg, Tree.holds, Sy.holds, haE, denV, denI, denB, denL, I2.den, VOp.den, List.getD_cons_zero, List.getD_cons_succ, Cst.den, syso, syse, syio, sybo, hai_ada, hai_ads, hai_ade, hai_hme, hai_gd, hai_fce, B2.ofInts, B2.denI, B2.denB, if_true, Bool.false_eq_true, if_false, Nat.div_one, Nat.mul_one, Nat.add_zero]
 rcases hoE_or rm rs rr gp gi rl ro hb ht he sf ss with ⟨hp, ho⟩ | ⟨hp, ho⟩
 all_goals
  simp only [hoL_eq]
  try have e := fc_y (sy := sy) hp
  try have e := fc_n (sy := sy) hp
  simp only [hoT] at e
  simp only [e, ho]
  refine ⟨?_, fun h0 => ?_⟩
  rotate_left
  refine ⟨fun h1 => ?_, fun h1 => ?_⟩
  rotate_left
  refine ⟨?_, fun h2 => ?_⟩
  rotate_left
  rotate_left
 all_goals first
 | exact True.intro
 | (show @Eq Value _ _
    first
    | exact True.intro
    | (exfalso; omega)
    | exact absurd True.intro (by assumption)
    | (simp only [gdq_n (show (1 : Int) ≠ 0 by decide)]; first | done | rfl)
    | (rw [(gd_ad rm rs sf).1, (gd_ad rm rs sf).2]; first | done | rfl)
    | skip
    done)
 | (skip
    first
    | exact hc
    | omega
    done)
theorem hag_hfacg : hac_hfacg.Good Tryz.prog syG (haE [] [] [] []) := good_of_walk (Γ := ⟨[yic_hcheck, yhc_adjust], syG, [], [], []⟩) (ρ := haE [] [] [] []) sym hfacg_w rfl (fun _ _ _ _ => (ok_cons (Con.Good.env (Con.Good.up (Con.Good.up (Con.Good.up yig_hcheck yjup rfl) ykup rfl) haup rfl) _ _ _ _) (ok_cons (Con.Good.env (Con.Good.up (Con.Good.up (Con.Good.up (Con.Good.up yhg_adjust yiup rfl) yjup rfl) ykup rfl) haup rfl) _ _ _ _) ok_nil))) hfacg_h
def rsyncx_tree : Tree :=
 (.need xrhaqhtk1_
 (.br xrhaqhtk46_
 (.ret xrhaqhtk29_)
 (.br (lt_ (.var 12) (.lit 0))
 (.ret xrhaqhtk29_)
 (.br (lt_ (.lit 1152921504606846976) (.var 12))
 (.ret xrhaqhtk29_)
 (.br (lt_ (.var 14) (.var 13))
 (.ret xrhaqhtk29_)
 (.br (le_ (.var 13) (.lit (-2305843009213693952)))
 (.ret xrhaqhtk29_)
 (.br (le_ (.lit 2305843009213693952) (.var 14))
 (.ret xrhaqhtk29_)
 (.br (.not (.bvar 0))
 (.need xrhaqhtk18_
 (.ret (.tup (.cons xrhaqhtk14_ (.cons (.int .i64 (.lit 0)) .nil)))))
 (.need (an_ xrhaqhtk1_ (an_ (.bapp 4 (.cons xrhaqhtk0_ .nil)) xrhaqhtk24_))
 (.br (eq_ xrhaqhtk34_ (.lit 2))
 (.need xrhaqhtk18_
 (.ret (.tup (.cons xrhaqhtk14_ (.cons (.int .i64 (.lit 0)) .nil)))))
 (.br (.not (eq_ xrhaqhtk34_ (.lit 0)))
 (.ret (.tup (.cons xrhaqhtk4_ (.cons (.int .i64 xrhaqhtk34_) .nil))))
 (.need (an_ (le_ (.lit 0) xrhaqhtk17_) (an_ xrhaqhtk45_ (an_ xrhaqhtk45_ (an_ (le_ lm_ xrhaqhtk17_) (le_ xrhaqhtk17_ lM_)))))
 (.br (le_ (.i2 .max (.iapp 1 (.cons (.int .i64 (sb_ xrhaqhtk7_ xrhaqhtk17_)) .nil)) (.var 13)) (.i2 .min (.iapp 1 (.cons (.int .i64 (ad_ xrhaqhtk7_ xrhaqhtk17_)) .nil)) (.var 14)))
 (.need xrhaqhtk31_
 (.need (an_ (an_ (le_ lm_ xrhaqhtk3_) (le_ xrhaqhtk3_ lM_)) xrhaqhtk45_)
 (.need (an_ xrhaqhtk43_ (an_ (an_ (le_ lm_ xrhaqhtk21_) (le_ xrhaqhtk21_ lM_)) (an_ (le_ lm_ (.var 11)) (le_ (.var 11) lM_))))
 (.ret xrhaqhtk27_))))
 (.need xrhaqhtk18_
 (.need (an_ (an_ (le_ lm_ xrhaqhtk8_) (le_ xrhaqhtk8_ lM_)) xrhaqhtk45_)
 (.need (an_ xrhaqhtk43_ (an_ (an_ (le_ lm_ xrhaqhtk20_) (le_ xrhaqhtk20_ lM_)) (an_ (le_ lm_ (.var 11)) (le_ (.var 11) lM_))))
 (.ret xrhaqhtk30_)))))))))))))))))
abbrev hac_rsyncx : Con := ⟨10, [xrhaqhtk9_, (.int .i64 (.var 12)), xrhaqhtk39_], (an_ xrhaqhtk1_ (an_ xrhaqhtk24_ (an_ (an_ (le_ lm_ (.var 13)) (le_ (.var 13) lM_)) (an_ (an_ (le_ lm_ (.var 14)) (le_ (.var 14) lM_)) xrhaqhtk46_)))), xrhaqhtk29_, ⟨15, 1, 0, 0⟩, none⟩
theorem rsyncx_w : walk Tryz.prog 94 ⟨[hac_rmay18, hac_rset18, hac_rreck, yhc_rsgrow, yhc_rless, yac_rbound, hac_rstepv], syG, [], [], []⟩ [] .v hac_rsyncx hac_rsyncx.n 3000 = some rsyncx_tree := by kernel_rfl
theorem rsyncx_h (rm rs rr gp gi rl ro hb ht he sf ss k a b : Int) (sy : Bool) : Hyp_ hac_rsyncx rsyncx_tree (haE [rm, rs, rr, gp, gi, rl, ro, hb, ht, he, sf, ss, k, a, b] [sy] [] []) := by
 intro hc hty
 simp only [hac_rsyncx, Sy.holds, haE, denV, denI, denB, denL, I2.den, VOp.den, List.getD_cons_zero, List.getD_cons_succ, Cst.den, syso, syse, syio, sybo, hab_hm, B2.ofInts, B2.denI, B2.denB, if_true, Bool.false_eq_true, if_false, Nat.div_one, Nat.mul_one, Nat.add_zero] at hc
 simp only [hac_rsyncx, patsTyp, patTyp, patTypL, haE, denV, denL, List.getD_cons_zero, List.getD_cons_succ, and_true, true_and] at hty
 unfold rsyncx_tree
 simp only [hac_rsyncx, Tree.holds, Sy.holds, haE, denV, denI, denB, denL, I2.den, VOp.den, List.getD_cons_zero, List.getD_cons_succ, Cst.den, syso, syse, syio, sybo, hai_sa, hai_nv, hai_so, hai_bd, hai_mi, hai_sve, hai_sts, hai_stf, hai_rke, hai_rkt, hai_rko, hab_hm, B2.ofInts, B2.denI, B2.denB, if_true, Bool.false_eq_true, if_false, Nat.div_one, Nat.mul_one, Nat.add_zero]
 have hn := hc.2.2.2.2
 refine ⟨?_, fun h0 => ?_⟩
 refine ?a0; rotate_left
 refine ⟨fun h1 => ?_, fun h1 => ?_⟩
 refine ?a1; rotate_left
 refine ⟨fun h2 => ?_, fun h2 => ?_⟩
 refine ?a2; rotate_left
 refine ⟨fun h3 => ?_, fun h3 => ?_⟩
 refine ?a3; rotate_left
 refine ⟨fun h4 => ?_, fun h4 => ?_⟩
 refine ?a4; rotate_left
 refine ⟨fun h5 => ?_, fun h5 => ?_⟩
 refine ?a5; rotate_left
 refine ⟨fun h6 => ?_, fun h6 => ?_⟩
 refine ?a6; rotate_left
 refine ⟨fun h7 => ?_, fun h7 => ?_⟩
 refine ⟨?_, fun h8 => ?_⟩
 refine ?a7; rotate_left
 refine ?a8; rotate_left
 refine ⟨?_, fun h9 => ?_⟩
 refine ?a9; rotate_left
 refine ⟨fun h10 => ?_, fun h10 => ?_⟩
 refine ⟨?_, fun h11 => ?_⟩
 refine ?a10; rotate_left
 refine ?a11; rotate_left
 refine ⟨fun h12 => ?_, fun h12 => ?_⟩
 refine ?a12; rotate_left
 refine ⟨?_, fun h13 => ?_⟩
 refine ?a13; rotate_left
 refine ⟨fun h14 => ?_, fun h14 => ?_⟩
 refine ⟨?_, fun h15 => ?_⟩
 refine ?a14; rotate_left
 refine ⟨?_, fun h16 => ?_⟩
 refine ?a15; rotate_left
 refine ⟨?_, fun h17 => ?_⟩
 refine ?a16; rotate_left
 refine ?a17; rotate_left
 refine ⟨?_, fun h18 => ?_⟩
 refine ?a18; rotate_left
 refine ⟨?_, fun h19 => ?_⟩
 refine ?a19; rotate_left
 refine ⟨?_, fun h20 => ?_⟩
 refine ?a20; rotate_left
 refine ?a21; rotate_left
 case a0 | a7 | a9 | a10 | a13 | a14 | a15 | a16 | a18 | a19 | a20 =>
  first
  | exact hc.1
  | exact absurd (Decidable.of_not_not h1) hn
 case a1 | a2 | a3 | a4 | a5 | a6 | a8 | a11 | a12 | a17 | a21 =>
  first
  | exact True.intro
  | rfl
  | exact absurd (Decidable.of_not_not h1) hn
theorem hag_rsyncx : hac_rsyncx.Good Tryz.prog syG (haE [] [] [] []) := good_of_walk (Γ := ⟨[hac_rmay18, hac_rset18, hac_rreck, yhc_rsgrow, yhc_rless, yac_rbound, hac_rstepv], syG, [], [], []⟩) (ρ := haE [] [] [] []) sym rsyncx_w rfl (fun _ _ _ _ => (ok_cons (Con.Good.env hag_rmay18 _ _ _ _) (ok_cons (Con.Good.env hag_rset18 _ _ _ _) (ok_cons (Con.Good.env hag_rreck _ _ _ _) (ok_cons (Con.Good.env (Con.Good.up (Con.Good.up (Con.Good.up (Con.Good.up yhg_rsgrow yiup rfl) yjup rfl) ykup rfl) haup rfl) _ _ _ _) (ok_cons (Con.Good.env (Con.Good.up (Con.Good.up (Con.Good.up (Con.Good.up yhg_rless yiup rfl) yjup rfl) ykup rfl) haup rfl) _ _ _ _) (ok_cons (Con.Good.env (Con.Good.up (Con.Good.up (Con.Good.up (Con.Good.up (Con.Good.up (Con.Good.up (Con.Good.up yag_rbound ybup rfl) ycup rfl) yhup rfl) yiup rfl) yjup rfl) ykup rfl) haup rfl) _ _ _ _) (ok_cons (Con.Good.env hag_rstepv _ _ _ _) ok_nil)))))))) rsyncx_h
def rsyncv_tree : Tree :=
 (.need xrhaqhtk1_
 (.br xrhaqhtk46_
 (.ret xrhaqhtk29_)
 (.br (lt_ (.var 12) (.lit 0))
 (.ret xrhaqhtk29_)
 (.br (lt_ (.lit 1152921504606846976) (.var 12))
 (.ret xrhaqhtk29_)
 (.br (lt_ (.var 14) (.var 13))
 (.ret xrhaqhtk29_)
 (.br (le_ (.var 13) (.lit (-2305843009213693952)))
 (.ret xrhaqhtk29_)
 (.br (le_ (.lit 2305843009213693952) (.var 14))
 (.ret xrhaqhtk29_)
 (.br (.not (.bvar 0))
 (.need xrhaqhtk18_
 (.ret (.tup (.cons xrhaqhtk14_ (.cons (.int .i64 (.lit 0)) .nil)))))
 (.need (an_ xrhaqhtk1_ (an_ (.bapp 4 (.cons xrhaqhtk0_ .nil)) xrhaqhtk24_))
 (.br (eq_ xrhaqhtk34_ (.lit 2))
 (.need xrhaqhtk18_
 (.ret (.tup (.cons xrhaqhtk14_ (.cons (.int .i64 (.lit 0)) .nil)))))
 (.br (.not (eq_ xrhaqhtk34_ (.lit 0)))
 (.ret (.tup (.cons xrhaqhtk4_ (.cons (.int .i64 xrhaqhtk34_) .nil))))
 (.need (an_ (le_ (.lit 0) xrhaqhtk17_) (an_ xrhaqhtk45_ (an_ xrhaqhtk45_ (an_ (le_ lm_ xrhaqhtk17_) (le_ xrhaqhtk17_ lM_)))))
 (.br (le_ (.i2 .max (.iapp 1 (.cons (.int .i64 (sb_ xrhaqhtk7_ xrhaqhtk17_)) .nil)) (.var 13)) (.i2 .min (.iapp 1 (.cons (.int .i64 (ad_ xrhaqhtk7_ xrhaqhtk17_)) .nil)) (.var 14)))
 (.need xrhaqhtk31_
 (.need (an_ (an_ (le_ lm_ xrhaqhtk3_) (le_ xrhaqhtk3_ lM_)) xrhaqhtk45_)
 (.need (an_ xrhaqhtk43_ (an_ (an_ (le_ lm_ xrhaqhtk21_) (le_ xrhaqhtk21_ lM_)) (an_ (le_ lm_ (.var 11)) (le_ (.var 11) lM_))))
 (.ret xrhaqhtk27_))))
 (.need xrhaqhtk18_
 (.need (an_ (an_ (le_ lm_ xrhaqhtk8_) (le_ xrhaqhtk8_ lM_)) xrhaqhtk45_)
 (.need (an_ xrhaqhtk43_ (an_ (an_ (le_ lm_ xrhaqhtk20_) (le_ xrhaqhtk20_ lM_)) (an_ (le_ lm_ (.var 11)) (le_ (.var 11) lM_))))
 (.ret xrhaqhtk30_)))))))))))))))))
abbrev hac_rsyncv : Con := ⟨10, [xrhaqhtk9_, (.int .i64 (.var 12)), xrhaqhtk39_], (an_ xrhaqhtk1_ (an_ xrhaqhtk24_ (an_ (an_ (le_ lm_ (.var 13)) (le_ (.var 13) lM_)) (an_ (an_ (le_ lm_ (.var 14)) (le_ (.var 14) lM_)) (.bapp 4 (.cons xrhaqhtk0_ .nil)))))), (.tup (.cons (.agg (.cons (.int .u32 (.iapp 54 (.cons (.int .i64 xrhaqhtk5_) (.cons z0_ .nil)))) (.cons (.int .i64 (.iapp 54 (.cons (.int .i64 xrhaqhtk5_) (.cons z1_ .nil)))) (.cons (.int .i64 (.iapp 54 (.cons (.int .i64 xrhaqhtk5_) (.cons z2_ .nil)))) (.cons (.int .i64 (.iapp 54 (.cons (.int .i64 xrhaqhtk5_) (.cons z3_ .nil)))) (.cons (.int .i64 (.iapp 54 (.cons (.int .i64 xrhaqhtk5_) (.cons z4_ .nil)))) (.cons (.int .i64 (.iapp 54 (.cons (.int .i64 xrhaqhtk5_) (.cons z5_ .nil)))) (.cons (.int .i64 (.iapp 54 (.cons (.int .i64 xrhaqhtk5_) (.cons z6_ .nil)))) (.cons (.bool (eq_ xrhaqhtk5_ (.lit 0))) (.cons (.int .i64 (.iapp 54 (.cons (.int .i64 xrhaqhtk5_) (.cons (.int .i64 (.var 12)) .nil)))) (.cons (.int .i64 (.iapp 54 (.cons (.int .i64 xrhaqhtk5_) (.cons (.int .i64 (.iapp 50 (.cons xrhaqhtk0_ (.cons (.int .i64 (.var 12)) (.cons (.int .i64 (.var 13)) (.cons (.int .i64 (.var 14)) .nil)))))) .nil)))) (.cons (.int .i64 (.iapp 54 (.cons (.int .i64 xrhaqhtk5_) (.cons (.int .i64 (.iapp 51 (.cons xrhaqhtk0_ (.cons (.int .i64 (.var 12)) (.cons (.int .i64 (.var 13)) (.cons (.int .i64 (.var 14)) .nil)))))) .nil)))) (.cons (.int .i64 (.iapp 54 (.cons (.int .i64 xrhaqhtk5_) (.cons (.int .i64 (.iapp 52 (.cons xrhaqhtk0_ (.cons (.int .i64 (.var 12)) (.cons (.int .i64 (.var 13)) (.cons (.int .i64 (.var 14)) .nil)))))) .nil)))) (.cons (.int .i64 (.iapp 54 (.cons (.int .i64 xrhaqhtk5_) (.cons (.int .i64 (.iapp 53 (.cons xrhaqhtk0_ (.cons (.int .i64 (.var 12)) (.cons (.int .i64 (.var 13)) (.cons (.int .i64 (.var 14)) .nil)))))) .nil)))) .nil)))))))))))))) (.cons (.int .i64 xrhaqhtk5_) .nil))), ⟨15, 1, 0, 0⟩, none⟩
theorem rsyncv_w : walk Tryz.prog 94 ⟨[hac_rmay18, hac_rset18, hac_rreck, yhc_rsgrow, yhc_rless, yac_rbound, hac_rstepv], syG, [], [], []⟩ [] .v hac_rsyncv hac_rsyncv.n 3000 = some rsyncv_tree := by kernel_rfl
set_option maxHeartbeats 4000000 in
theorem rsyncv_h (rm rs rr gp gi rl ro hb ht he sf ss k a b : Int) (sy : Bool) : Hyp_ hac_rsyncv rsyncv_tree (haE [rm, rs, rr, gp, gi, rl, ro, hb, ht, he, sf, ss, k, a, b] [sy] [] []) := by
 intro hc hty
 simp only [hac_rsyncv, Sy.holds, haE, denV, denI, denB, denL, I2.den, VOp.den, List.getD_cons_zero, List.getD_cons_succ, Cst.den, syso, syse, syio, sybo, hab_hm, B2.ofInts, B2.denI, B2.denB, if_true, Bool.false_eq_true, if_false, Nat.div_one, Nat.mul_one, Nat.add_zero] at hc
 simp only [hac_rsyncv, patsTyp, patTyp, patTypL, haE, denV, denL, List.getD_cons_zero, List.getD_cons_succ, and_true, true_and] at hty
 unfold rsyncv_tree
 simp only [hac_rsyncv, Tree.holds, Sy.holds, haE, denV, denI, denB, denL, I2.den, VOp.den, List.getD_cons_zero, List.getD_cons_succ, Cst.den, syso, syse, syio, sybo, hai_sa, hai_nv, hai_so, hai_bd, hai_mi, hai_sve, hai_sts, hai_stf, hai_rke, hai_rkt, hai_rko, hai_sye, hai_syt, hai_syr, hai_syf, hai_sys, hai_gd, hab_hm, B2.ofInts, B2.denI, B2.denB, if_true, Bool.false_eq_true, if_false, Nat.div_one, Nat.mul_one, Nat.add_zero]
 have hLs : (if a > satE (rkTl (Sy.rows (hoT rm rs rr gp gi rl ro hb ht he sf ss sy)) k - rkOl (Sy.rows (hoT rm rs rr gp gi rl ro hb ht he sf ss sy)) k) then a else satE (rkTl (Sy.rows (hoT rm rs rr gp gi rl ro hb ht he sf ss sy)) k - rkOl (Sy.rows (hoT rm rs rr gp gi rl ro hb ht he sf ss sy)) k)) = (if satE (rkTl (Sy.rows (hoT rm rs rr gp gi rl ro hb ht he sf ss sy)) k - rkOl (Sy.rows (hoT rm rs rr gp gi rl ro hb ht he sf ss sy)) k) > a then satE (rkTl (Sy.rows (hoT rm rs rr gp gi rl ro hb ht he sf ss sy)) k - rkOl (Sy.rows (hoT rm rs rr gp gi rl ro hb ht he sf ss sy)) k) else a) := by (split <;> split <;> omega)
 have hHs : (if b < satE (rkTl (Sy.rows (hoT rm rs rr gp gi rl ro hb ht he sf ss sy)) k + rkOl (Sy.rows (hoT rm rs rr gp gi rl ro hb ht he sf ss sy)) k) then b else satE (rkTl (Sy.rows (hoT rm rs rr gp gi rl ro hb ht he sf ss sy)) k + rkOl (Sy.rows (hoT rm rs rr gp gi rl ro hb ht he sf ss sy)) k)) = (if satE (rkTl (Sy.rows (hoT rm rs rr gp gi rl ro hb ht he sf ss sy)) k + rkOl (Sy.rows (hoT rm rs rr gp gi rl ro hb ht he sf ss sy)) k) < b then satE (rkTl (Sy.rows (hoT rm rs rr gp gi rl ro hb ht he sf ss sy)) k + rkOl (Sy.rows (hoT rm rs rr gp gi rl ro hb ht he sf ss sy)) k) else b) := by (split <;> split <;> omega)
 simp only [hoT] at hLs hHs
 simp only [hLs, hHs]
 clear hLs hHs
 obtain ⟨L, hL0⟩ : ∃ x, (if satE (rkTl (Sy.rows (hoT rm rs rr gp gi rl ro hb ht he sf ss sy)) k - rkOl (Sy.rows (hoT rm rs rr gp gi rl ro hb ht he sf ss sy)) k) > a then satE (rkTl (Sy.rows (hoT rm rs rr gp gi rl ro hb ht he sf ss sy)) k - rkOl (Sy.rows (hoT rm rs rr gp gi rl ro hb ht he sf ss sy)) k) else a) = x := ⟨_, rfl⟩
 obtain ⟨H, hH0⟩ : ∃ x, (if satE (rkTl (Sy.rows (hoT rm rs rr gp gi rl ro hb ht he sf ss sy)) k + rkOl (Sy.rows (hoT rm rs rr gp gi rl ro hb ht he sf ss sy)) k) < b then satE (rkTl (Sy.rows (hoT rm rs rr gp gi rl ro hb ht he sf ss sy)) k + rkOl (Sy.rows (hoT rm rs rr gp gi rl ro hb ht he sf ss sy)) k) else b) = x := ⟨_, rfl⟩
 simp only [hL0, hH0]
 simp only [hoL_eq, hoB_eq, rkE_eq, rkT_eq, rkO_eq, syE_eq, syT_eq, syR_eq, syF_eq, syS_eq]
 have hk := rk_spec rm rs rr hb ht he sf k
 have hcs := sy_cases rm rs rr gp gi rl ro hb ht he sf ss sy k a b
 have hsv := sv_spec gp gi rl
 have hL : (if satE (rkT rm rs hb ht sf k - rkO rm rs rr hb ht he sf k) > a then satE (rkT rm rs hb ht sf k - rkO rm rs rr hb ht he sf k) else a) = L := hL0
 have hH : (if satE (rkT rm rs hb ht sf k + rkO rm rs rr hb ht he sf k) < b then satE (rkT rm rs hb ht sf k + rkO rm rs rr hb ht he sf k) else b) = H := hH0
 have uL := satE_spec (rkT rm rs hb ht sf k - rkO rm rs rr hb ht he sf k)
 have uH := satE_spec (rkT rm rs hb ht sf k + rkO rm rs rr hb ht he sf k)
 have hL2 : -9223372036854775808 ≤ L ∧ L ≤ 9223372036854775807 := by (rw [← hL]; split <;> omega)
 have hH2 : -9223372036854775808 ≤ H ∧ H ≤ 9223372036854775807 := by (rw [← hH]; split <;> omega)
 have hLH : (L ≤ H ∧ decide (L ≤ H) = true) ∨ (¬ L ≤ H ∧ decide (L ≤ H) = false) := by (by_cases h : L ≤ H; exact .inl ⟨h, decide_eq_true h⟩; exact .inr ⟨h, decide_eq_false h⟩)
 have hoo := hoE_or rm rs rr gp gi rl ro hb ht he sf ss
 have hsp := spI_spec a b
 try simp only [bd_sat]
 have hp0 : hoP rm rs rr gp gi rl ro hb ht he sf ss := of_decide_eq_true hc.2.2.2.2
 have ho := hoE_y hp0
 have hbd := rk_bd (k := k) hp0
 cases sy
 all_goals
  refine ⟨?_, fun h0 => ?_⟩
  rotate_left
  refine ⟨fun h1 => ?_, fun h1 => ?_⟩
  rotate_left
  refine ⟨fun h2 => ?_, fun h2 => ?_⟩
  rotate_left
  refine ⟨fun h3 => ?_, fun h3 => ?_⟩
  rotate_left
  refine ⟨fun h4 => ?_, fun h4 => ?_⟩
  rotate_left
  refine ⟨fun h5 => ?_, fun h5 => ?_⟩
  rotate_left
  refine ⟨fun h6 => ?_, fun h6 => ?_⟩
  rotate_left
  refine ⟨fun h7 => ?_, fun h7 => ?_⟩
  refine ⟨?_, fun h8 => ?_⟩
  rotate_left
  rotate_left
  refine ⟨?_, fun h9 => ?_⟩
  rotate_left
  refine ⟨fun h10 => ?_, fun h10 => ?_⟩
  refine ⟨?_, fun h11 => ?_⟩
  rotate_left
  rotate_left
  refine ⟨fun h12 => ?_, fun h12 => ?_⟩
  rotate_left
  refine ⟨?_, fun h13 => ?_⟩
  rotate_left
  refine ⟨fun h14 => ?_, fun h14 => ?_⟩
  refine ⟨?_, fun h15 => ?_⟩
  rotate_left
  refine ⟨?_, fun h16 => ?_⟩
  rotate_left
  refine ⟨?_, fun h17 => ?_⟩
  rotate_left
  rotate_left
  refine ⟨?_, fun h18 => ?_⟩
  rotate_left
  refine ⟨?_, fun h19 => ?_⟩
  rotate_left
  refine ⟨?_, fun h20 => ?_⟩
  rotate_left
  rotate_left
 all_goals first
 | exact True.intro
 | (show @Eq Value _ _
    first
    | with_reducible exact absurd (decide_eq_true hp0) (by assumption)
    | contradiction
    | (rcases hcs with ⟨q, e⟩ | ⟨⟨hp, q0, q1, q2, q3, q4, q5⟩, ⟨hs, q6, e⟩ | ⟨q6, e⟩⟩ <;> (try contradiction) <;> (try (simp only [true_or, false_or, reduceCtorEq] at q6))
       all_goals first
       | (exfalso; omega)
       | (rw [show rkE rm rs hb ht sf k = 10 by omega]; simp only [e, gdq_n (show (1 : Int) ≠ 0 by decide), gdq_n (show (10 : Int) ≠ 0 by decide), gdq_y (show (0 : Int) = 0 from rfl), gb_y, gb_n]; rfl)
       | (simp only [e, gdq_n (show (1 : Int) ≠ 0 by decide), gdq_n (show (10 : Int) ≠ 0 by decide), gdq_y (show (0 : Int) = 0 from rfl), gb_y, gb_n]; done)
       | (simp only [e, gdq_n (show (1 : Int) ≠ 0 by decide), gdq_n (show (10 : Int) ≠ 0 by decide), gdq_y (show (0 : Int) = 0 from rfl), gb_y, gb_n]; rfl)
       | (obtain ⟨u1, u2, u3, u4⟩ := @sy_uns rm rs rr gp gi rl ro hb ht he sf ss k a b _ (.inl rfl)
          simp only [e, u1, u2, u3, u4, gdq_n (show (1 : Int) ≠ 0 by decide), gdq_n (show (10 : Int) ≠ 0 by decide), gdq_y (show (0 : Int) = 0 from rfl), gb_y, gb_n]
          first | done | rfl)
       | (obtain ⟨u1, u2, u3, u4⟩ := @sy_uns rm rs rr gp gi rl ro hb ht he sf ss k a b true (.inr (by omega))
          simp only [e, u1, u2, u3, u4, gdq_n (show (1 : Int) ≠ 0 by decide), gdq_n (show (10 : Int) ≠ 0 by decide), gdq_y (show (0 : Int) = 0 from rfl), gb_y, gb_n]
          first | done | rfl)
       | (have h0 : rkE rm rs hb ht sf k = 0 := by omega
          rcases hLH with ⟨q, dd⟩ | ⟨q, dd⟩
          · obtain ⟨u1, u2, u3, u4⟩ := sy_m (gp := gp) (gi := gi) (rl := rl) (ro := ro) (ss := ss) h0 hL hH q
            first
            | contradiction
            | (simp only [e, dd, u1, u2, u3, u4, gdq_n (show (1 : Int) ≠ 0 by decide), gdq_n (show (10 : Int) ≠ 0 by decide), gdq_y (show (0 : Int) = 0 from rfl), gb_y, gb_n, gb_y]
               first | done | rfl)
          · obtain ⟨u1, u2, u3, u4⟩ := sy_n (gp := gp) (gi := gi) (rl := rl) (ro := ro) (ss := ss) h0 hL hH q
            first
            | contradiction
            | (simp only [e, dd, u1, u2, u3, u4, gdq_n (show (1 : Int) ≠ 0 by decide), gdq_n (show (10 : Int) ≠ 0 by decide), gdq_y (show (0 : Int) = 0 from rfl), gb_y, gb_n]
               first | done | rfl))
       | skip)
    done)
 | (skip
    first
    | (have hm2 := mi_bd (by assumption : L ≤ H)
       have u4 := satE_spec (miI L H - rkT rm rs hb ht sf k)
       obtain ⟨f, a1, a2, a3, a4, a5, a6, a7, a8, a9, a10, a11, a12, a13, a14, a15, a16, a17, a18, a19, a20⟩ := id hp0
       omega)
    | with_reducible exact absurd (decide_eq_true hp0) (by assumption)
    | omega
    | exact hc.1
    | contradiction
    | (rcases hcs with ⟨q, e⟩ | ⟨⟨hp, q0, q1, q2, q3, q4, q5⟩, hcs⟩
       · exfalso; omega
       · obtain ⟨f, a1, a2, a3, a4, a5, a6, a7, a8, a9, a10, a11, a12, a13, a14, a15, a16, a17, a18, a19, a20⟩ := id hp
         have hbd := rk_bd (k := k) hp
         have hmm := mi_bd (show a ≤ b by omega)
         first
         | omega
         | exact ⟨hc.1, decide_eq_true hp, hc.2.1⟩
         | exact ⟨hc.1, hc.2.1, by omega⟩
         | (have u3 := satE_spec (miI a b - rkT rm rs hb ht sf k)
            omega)
         | (rcases hLH with ⟨q, dd⟩ | ⟨q, dd⟩
            · have hm2 := mi_bd q
              have u4 := satE_spec (miI L H - rkT rm rs hb ht sf k)
              simp only [dd, gb_y]
              first
              | omega
              | exact ⟨hc.1, hc.2.1, q, hL2, hH2⟩
            · contradiction)
         | skip)
    | skip
    done)
theorem hag_rsyncv : hac_rsyncv.Good Tryz.prog syG (haE [] [] [] []) := good_of_walk (Γ := ⟨[hac_rmay18, hac_rset18, hac_rreck, yhc_rsgrow, yhc_rless, yac_rbound, hac_rstepv], syG, [], [], []⟩) (ρ := haE [] [] [] []) sym rsyncv_w rfl (fun _ _ _ _ => (ok_cons (Con.Good.env hag_rmay18 _ _ _ _) (ok_cons (Con.Good.env hag_rset18 _ _ _ _) (ok_cons (Con.Good.env hag_rreck _ _ _ _) (ok_cons (Con.Good.env (Con.Good.up (Con.Good.up (Con.Good.up (Con.Good.up yhg_rsgrow yiup rfl) yjup rfl) ykup rfl) haup rfl) _ _ _ _) (ok_cons (Con.Good.env (Con.Good.up (Con.Good.up (Con.Good.up (Con.Good.up yhg_rless yiup rfl) yjup rfl) ykup rfl) haup rfl) _ _ _ _) (ok_cons (Con.Good.env (Con.Good.up (Con.Good.up (Con.Good.up (Con.Good.up (Con.Good.up (Con.Good.up (Con.Good.up yag_rbound ybup rfl) ycup rfl) yhup rfl) yiup rfl) yjup rfl) ykup rfl) haup rfl) _ _ _ _) (ok_cons (Con.Good.env hag_rstepv _ _ _ _) ok_nil)))))))) rsyncv_h
def wTellsX_tree : Tree :=
 (.need (an_ xrhaqhtk1_ xrhaqhtk24_)
 (.need (an_ xrhaqhtk1_ xrhaqhtk24_)
 (.need (an_ xrhaqhtk1_ (an_ xrhaqhtk24_ xrhaqhtk33_))
 (.need (an_ xrhaqhtk1_ (an_ xrhaqhtk24_ (an_ (an_ (le_ lm_ (.var 13)) (le_ (.var 13) lM_)) (an_ (an_ (le_ lm_ (.var 14)) (le_ (.var 14) lM_)) xrhaqhtk46_))))
 (.need xrhaqhtk15_
 (.need xrhaqhtk1_
 (.need (an_ xrhaqhtk26_ (an_ (le_ lm_ (.var 10)) (le_ (.var 10) lM_)))
 (.need xrhaqhtk1_
 (.br xrhaqhtk46_
 (.br (.not (an_ (eq_ xrhaqhtk37_ (.lit 0)) (eq_ xrhaqhtk38_ (.lit 0))))
 (.ret (.bool (.tt false)))
 (.br (.not (eq_ (.iapp 57 (.cons xrhaqhtk0_ .nil)) (.lit 1)))
 (.ret (.bool (.tt false)))
 (.br xrhaqhtk16_
 (.ret (.bool (.tt false)))
 (.br (.not (eq_ xrhaqhtk5_ (.lit 1)))
 (.ret (.bool (.tt false)))
 (.need xrhaqhtk1_
 (.need xrhaqhtk1_
 (.br xrhaqhtk42_
 (.ret (.bool (.tt false)))
 (.need xrhaqhtk15_
 (.br xrhaqhtk44_
 (.br (.bapp 4 (.cons xrhaqhtk2_ .nil))
 (.br xrhaqhtk12_
 (.ret (.bool (.tt true)))
 (.ret (.bool (.tt false))))
 (.br (eq_ (.iapp 42 (.cons xrhaqhtk2_ .nil)) (.lit 1))
 (.br xrhaqhtk10_
 (.ret (.bool (.tt true)))
 (.ret (.bool (.tt false))))
 (.ret (.bool (.tt false)))))
 (.ret (.bool (.tt false))))))))))))
 (.br (.not (an_ (eq_ xrhaqhtk37_ xrhaqhtk23_) (eq_ xrhaqhtk38_ xrhaqhtk22_)))
 (.ret (.bool (.tt false)))
 (.br (.not (eq_ (.iapp 57 (.cons xrhaqhtk0_ .nil)) xrhaqhtk40_))
 (.ret (.bool (.tt false)))
 (.br xrhaqhtk16_
 (.ret (.bool (.tt false)))
 (.br (.not (eq_ xrhaqhtk5_ (.lit 1)))
 (.ret (.bool (.tt false)))
 (.need xrhaqhtk1_
 (.need xrhaqhtk1_
 (.br xrhaqhtk42_
 (.ret (.bool (.tt false)))
 (.need xrhaqhtk15_
 (.br xrhaqhtk44_
 (.br (.bapp 4 (.cons xrhaqhtk2_ .nil))
 (.br xrhaqhtk12_
 (.ret (.bool (.tt true)))
 (.ret (.bool (.tt false))))
 (.br (eq_ (.iapp 42 (.cons xrhaqhtk2_ .nil)) (.lit 1))
 (.br xrhaqhtk10_
 (.ret (.bool (.tt true)))
 (.ret (.bool (.tt false))))
 (.ret (.bool (.tt false)))))
 (.ret (.bool (.tt false)))))))))))))))))))))
abbrev hac_wTellsX : Con := ⟨3, [xrhaqhtk9_, (.int .i64 (.var 12)), xrhaqhtk39_], (an_ (an_ xrhaqhtk1_ (an_ xrhaqhtk24_ xrhaqhtk33_)) xrhaqhtk46_), (.bool (.tt true)), ⟨15, 1, 0, 0⟩, none⟩
theorem wTellsX_w : walk Tryz.prog 94 ⟨[ykc_give, yic_now, hac_rnow18, yjc_sync, hac_rsyncx, ykc_hnew, hac_hfacg, yhc_radjust, hac_rmay18, yic_hcheck, ykc_drop, ykc_num, ykc_sure18], syG, [], [], []⟩ [] .v hac_wTellsX hac_wTellsX.n 3000 = some wTellsX_tree := by kernel_rfl
theorem wTellsX_h (rm rs rr gp gi rl ro hb ht he sf ss k a b : Int) (sy : Bool) : Hyp_ hac_wTellsX wTellsX_tree (haE [rm, rs, rr, gp, gi, rl, ro, hb, ht, he, sf, ss, k, a, b] [sy] [] []) := by
 intro hc hty
 simp only [hac_wTellsX, Sy.holds, haE, denV, denI, denB, denL, I2.den, VOp.den, List.getD_cons_zero, List.getD_cons_succ, Cst.den, syso, syse, syio, sybo, hab_hm, B2.ofInts, B2.denI, B2.denB, if_true, Bool.false_eq_true, if_false, Nat.div_one, Nat.mul_one, Nat.add_zero] at hc
 simp only [hac_wTellsX, patsTyp, patTyp, patTypL, haE, denV, denL, List.getD_cons_zero, List.getD_cons_succ, and_true, true_and] at hty
 unfold wTellsX_tree
 simp only [hac_wTellsX, Tree.holds, Sy.holds, haE, denV, denI, denB, denL, I2.den, VOp.den, List.getD_cons_zero, List.getD_cons_succ, Cst.den, syso, syse, syio, sybo, hai_ada, hai_ads, hai_ade, hai_hme, hai_sye, hai_syt, hai_syr, hai_syf, hai_sys, hai_gd, hai_fce, hab_hm, B2.ofInts, B2.denI, B2.denB, if_true, Bool.false_eq_true, if_false, Nat.div_one, Nat.mul_one, Nat.add_zero]
 obtain ⟨⟨hc0, hk0, ha0, hb0⟩, hn⟩ := hc
 have hp : ¬ hoP rm rs rr gp gi rl ro hb ht he sf ss := fun h => hn (decide_eq_true h)
 have ho := hoE_n hp
 have hd := decide_eq_false hp
 have e := fc_n (sy := sy) hp
 have hsy : syE rm rs rr gp gi rl ro hb ht he sf ss sy k a b = 1 := by (rcases sy_cases rm rs rr gp gi rl ro hb ht he sf ss sy k a b with ⟨_, e⟩ | ⟨⟨h, _⟩, _⟩; exact e; exact absurd h hp)
 have hzL : hoL (Sy.rows (hoT rm rs rr gp gi rl ro 0 0 0 0 0 false)) = hoE rm rs rr gp gi rl ro 0 0 0 0 0 := rfl
 have hzB : hoB (Sy.rows (hoT rm rs rr gp gi rl ro 0 0 0 0 0 false)) = decide (hoP rm rs rr gp gi rl ro 0 0 0 0 0) := rfl
 simp only [hoT] at e hzL hzB
 simp only [hzL, hzB, hoL_eq, hoB_eq, syE_eq, e, ho, hd, hsy, gdq_n (show (1 : Int) ≠ 0 by decide)]
 rcases hoE_or rm rs rr gp gi rl ro 0 0 0 0 0 with ⟨rp, ro0⟩ | ⟨rp, ro0⟩
 all_goals
  try have rd := decide_eq_true rp
  try have rd := decide_eq_false rp
  simp only [ro0, rd, gdq_y (show (0 : Int) = 0 from rfl), gdq_n (show (1 : Int) ≠ 0 by decide)]
  refine ⟨?_, fun h0 => ?_⟩
  rotate_left
  refine ⟨?_, fun h1 => ?_⟩
  rotate_left
  refine ⟨?_, fun h2 => ?_⟩
  rotate_left
  refine ⟨?_, fun h3 => ?_⟩
  rotate_left
  refine ⟨?_, fun h4 => ?_⟩
  rotate_left
  refine ⟨?_, fun h5 => ?_⟩
  rotate_left
  refine ⟨?_, fun h6 => ?_⟩
  rotate_left
  refine ⟨?_, fun h7 => ?_⟩
  rotate_left
  refine ⟨fun h8 => ?_, fun h8 => ?_⟩
  refine ⟨fun h9 => ?_, fun h9 => ?_⟩
  rotate_left
  refine ⟨fun h10 => ?_, fun h10 => ?_⟩
  rotate_left
  refine ⟨fun h11 => ?_, fun h11 => ?_⟩
  rotate_left
  refine ⟨fun h12 => ?_, fun h12 => ?_⟩
  rotate_left
  refine ⟨?_, fun h13 => ?_⟩
  rotate_left
  refine ⟨?_, fun h14 => ?_⟩
  rotate_left
  refine ⟨fun h15 => ?_, fun h15 => ?_⟩
  rotate_left
  refine ⟨?_, fun h16 => ?_⟩
  rotate_left
  refine ⟨fun h17 => ?_, fun h17 => ?_⟩
  refine ⟨fun h18 => ?_, fun h18 => ?_⟩
  refine ⟨fun h19 => ?_, fun h19 => ?_⟩
  rotate_left
  rotate_left
  refine ⟨fun h20 => ?_, fun h20 => ?_⟩
  refine ⟨fun h21 => ?_, fun h21 => ?_⟩
  rotate_left
  rotate_left
  rotate_left
  rotate_left
  refine ⟨fun h22 => ?_, fun h22 => ?_⟩
  rotate_left
  refine ⟨fun h23 => ?_, fun h23 => ?_⟩
  rotate_left
  refine ⟨fun h24 => ?_, fun h24 => ?_⟩
  rotate_left
  refine ⟨fun h25 => ?_, fun h25 => ?_⟩
  rotate_left
  refine ⟨?_, fun h26 => ?_⟩
  rotate_left
  refine ⟨?_, fun h27 => ?_⟩
  rotate_left
  refine ⟨fun h28 => ?_, fun h28 => ?_⟩
  rotate_left
  refine ⟨?_, fun h29 => ?_⟩
  rotate_left
  refine ⟨fun h30 => ?_, fun h30 => ?_⟩
  refine ⟨fun h31 => ?_, fun h31 => ?_⟩
  refine ⟨fun h32 => ?_, fun h32 => ?_⟩
  rotate_left
  rotate_left
  refine ⟨fun h33 => ?_, fun h33 => ?_⟩
  refine ⟨fun h34 => ?_, fun h34 => ?_⟩
  rotate_left
  rotate_left
  rotate_left
  rotate_left
 all_goals first
 | exact True.intro
 | (show @Eq Value _ _
    first
    | exact True.intro
    | rfl
    | (exfalso; omega)
    | exact absurd True.intro (by assumption)
    | (exfalso; simp only [and_self, true_and, and_true, not_true_eq_false, not_false_eq_true, iff_self, Bool.false_eq_true, iff_true, iff_false, true_iff, false_iff, one_ne_zero] at *; done)
    | (exfalso; simp at *; done)
    | skip
    done)
 | (skip
    first
    | exact True.intro
    | exact hc0
    | exact ⟨hc0, hk0⟩
    | exact ⟨hc0, hk0, ha0, hb0⟩
    | exact ⟨hc0, hk0, ha0, hb0, hx⟩
    | exact ⟨hc0, hk0, ha0, hb0, hn⟩
    | exact ⟨hc0, hk0, ha0, hb0, True.intro⟩
    | exact ⟨hc0, hk0, ha0, hb0, fun h => h⟩
    | exact ⟨hc0, hk0, ha0, hb0, Bool.false_ne_true⟩
    | omega
    | skip
    done)
theorem hag_wTellsX : hac_wTellsX.Good Tryz.prog syG (haE [] [] [] []) := good_of_walk (Γ := ⟨[ykc_give, yic_now, hac_rnow18, yjc_sync, hac_rsyncx, ykc_hnew, hac_hfacg, yhc_radjust, hac_rmay18, yic_hcheck, ykc_drop, ykc_num, ykc_sure18], syG, [], [], []⟩) (ρ := haE [] [] [] []) sym wTellsX_w rfl (fun _ _ _ _ => (ok_cons (Con.Good.env (Con.Good.up ykg_give haup rfl) _ _ _ _) (ok_cons (Con.Good.env (Con.Good.up (Con.Good.up (Con.Good.up yig_now yjup rfl) ykup rfl) haup rfl) _ _ _ _) (ok_cons (Con.Good.env hag_rnow18 _ _ _ _) (ok_cons (Con.Good.env (Con.Good.up (Con.Good.up yjg_sync ykup rfl) haup rfl) _ _ _ _) (ok_cons (Con.Good.env hag_rsyncx _ _ _ _) (ok_cons (Con.Good.env (Con.Good.up ykg_hnew haup rfl) _ _ _ _) (ok_cons (Con.Good.env hag_hfacg _ _ _ _) (ok_cons (Con.Good.env (Con.Good.up (Con.Good.up (Con.Good.up (Con.Good.up yhg_radjust yiup rfl) yjup rfl) ykup rfl) haup rfl) _ _ _ _) (ok_cons (Con.Good.env hag_rmay18 _ _ _ _) (ok_cons (Con.Good.env (Con.Good.up (Con.Good.up (Con.Good.up yig_hcheck yjup rfl) ykup rfl) haup rfl) _ _ _ _) (ok_cons (Con.Good.env (Con.Good.up ykg_drop haup rfl) _ _ _ _) (ok_cons (Con.Good.env (Con.Good.up ykg_num haup rfl) _ _ _ _) (ok_cons (Con.Good.env (Con.Good.up ykg_sure18 haup rfl) _ _ _ _) ok_nil)))))))))))))) wTellsX_h
def wTellsV_tree : Tree :=
 (.need (an_ xrhaqhtk1_ xrhaqhtk24_)
 (.need (an_ xrhaqhtk1_ xrhaqhtk24_)
 (.need (an_ xrhaqhtk1_ (an_ xrhaqhtk24_ xrhaqhtk33_))
 (.need (an_ xrhaqhtk1_ (an_ xrhaqhtk24_ (an_ (an_ (le_ lm_ (.var 13)) (le_ (.var 13) lM_)) (an_ (an_ (le_ lm_ (.var 14)) (le_ (.var 14) lM_)) (.bapp 4 (.cons xrhaqhtk0_ .nil))))))
 (.need xrhaqhtk15_
 (.need xrhaqhtk1_
 (.need (an_ xrhaqhtk26_ (an_ (le_ lm_ (.var 10)) (le_ (.var 10) lM_)))
 (.need xrhaqhtk1_
 (.br xrhaqhtk46_
 (.br (.not (an_ (eq_ xrhaqhtk37_ (.lit 0)) (eq_ xrhaqhtk38_ (.lit 0))))
 (.ret (.bool (.tt false)))
 (.br (.not (eq_ (.iapp 57 (.cons xrhaqhtk0_ .nil)) (.lit 1)))
 (.ret (.bool (.tt false)))
 (.need xrhaqhtk1_
 (.need xrhaqhtk1_
 (.br xrhaqhtk42_
 (.ret (.bool (.tt false)))
 (.need xrhaqhtk15_
 (.br xrhaqhtk44_
 (.br (.bapp 4 (.cons xrhaqhtk2_ .nil))
 (.br xrhaqhtk12_
 (.ret (.bool (.tt true)))
 (.ret (.bool (.tt false))))
 (.br (eq_ (.iapp 42 (.cons xrhaqhtk2_ .nil)) (.lit 1))
 (.br xrhaqhtk10_
 (.ret (.bool (.tt true)))
 (.ret (.bool (.tt false))))
 (.ret (.bool (.tt false)))))
 (.ret (.bool (.tt false))))))))))
 (.br (.not (an_ (eq_ xrhaqhtk37_ xrhaqhtk23_) (eq_ xrhaqhtk38_ xrhaqhtk22_)))
 (.ret (.bool (.tt false)))
 (.br (.not (eq_ (.iapp 57 (.cons xrhaqhtk0_ .nil)) xrhaqhtk40_))
 (.ret (.bool (.tt false)))
 (.need xrhaqhtk1_
 (.need xrhaqhtk1_
 (.br xrhaqhtk42_
 (.ret (.bool (.tt false)))
 (.need xrhaqhtk15_
 (.br xrhaqhtk44_
 (.br (.bapp 4 (.cons xrhaqhtk2_ .nil))
 (.br xrhaqhtk12_
 (.ret (.bool (.tt true)))
 (.ret (.bool (.tt false))))
 (.br (eq_ (.iapp 42 (.cons xrhaqhtk2_ .nil)) (.lit 1))
 (.br xrhaqhtk10_
 (.ret (.bool (.tt true)))
 (.ret (.bool (.tt false))))
 (.ret (.bool (.tt false)))))
 (.ret (.bool (.tt false)))))))))))))))))))
abbrev hac_wTellsV : Con := ⟨3, [xrhaqhtk9_, (.int .i64 (.var 12)), xrhaqhtk39_], (an_ (an_ xrhaqhtk1_ (an_ xrhaqhtk24_ xrhaqhtk33_)) (.bapp 4 (.cons xrhaqhtk0_ .nil))), (.bool (.tt true)), ⟨15, 1, 0, 0⟩, none⟩
theorem wTellsV_w : walk Tryz.prog 94 ⟨[ykc_give, yic_now, hac_rnow18, yjc_sync, hac_rsyncv, ykc_hnew, hac_hfacg, yhc_radjust, hac_rmay18, yic_hcheck, ykc_drop, ykc_num, ykc_sure18], syG, [], [], []⟩ [] .v hac_wTellsV hac_wTellsV.n 3000 = some wTellsV_tree := by kernel_rfl
theorem wTellsV_h (rm rs rr gp gi rl ro hb ht he sf ss k a b : Int) (sy : Bool) : Hyp_ hac_wTellsV wTellsV_tree (haE [rm, rs, rr, gp, gi, rl, ro, hb, ht, he, sf, ss, k, a, b] [sy] [] []) := by
 intro hc hty
 simp only [hac_wTellsV, Sy.holds, haE, denV, denI, denB, denL, I2.den, VOp.den, List.getD_cons_zero, List.getD_cons_succ, Cst.den, syso, syse, syio, sybo, hab_hm, B2.ofInts, B2.denI, B2.denB, if_true, Bool.false_eq_true, if_false, Nat.div_one, Nat.mul_one, Nat.add_zero] at hc
 simp only [hac_wTellsV, patsTyp, patTyp, patTypL, haE, denV, denL, List.getD_cons_zero, List.getD_cons_succ, and_true, true_and] at hty
 unfold wTellsV_tree
 simp only [hac_wTellsV, Tree.holds, Sy.holds, haE, denV, denI, denB, denL, I2.den, VOp.den, List.getD_cons_zero, List.getD_cons_succ, Cst.den, syso, syse, syio, sybo, hai_ada, hai_ads, hai_ade, hai_hme, hai_gd, hai_fce, hab_hm, B2.ofInts, B2.denI, B2.denB, if_true, Bool.false_eq_true, if_false, Nat.div_one, Nat.mul_one, Nat.add_zero]
 obtain ⟨⟨hc0, hk0, ha0, hb0⟩, hx⟩ := hc
 have hp : hoP rm rs rr gp gi rl ro hb ht he sf ss := of_decide_eq_true hx
 have ho := hoE_y hp
 have hd := decide_eq_true hp
 have e := fc_y (sy := sy) hp
 have rp : hoP rm rs rr gp gi rl ro 0 0 0 0 0 := by (obtain ⟨f, a1, a2, a3, a4, a5, a6, a7, a8, a9, a10, a11, a12, a13, a14, a15, a16, a17, a18, a19, a20⟩ := id hp; exact ⟨f, a1, a2, a3, a4, a5, a6, a7, a8, a9, a10, by omega, by omega, by omega, by omega, by omega, by omega, by omega, by omega, by omega, by omega⟩)
 have ro0 := hoE_y rp
 have rd := decide_eq_true rp
 have hzL : hoL (Sy.rows (hoT rm rs rr gp gi rl ro 0 0 0 0 0 false)) = hoE rm rs rr gp gi rl ro 0 0 0 0 0 := rfl
 have hzB : hoB (Sy.rows (hoT rm rs rr gp gi rl ro 0 0 0 0 0 false)) = decide (hoP rm rs rr gp gi rl ro 0 0 0 0 0) := rfl
 simp only [hoT] at e hzL hzB
 simp only [hzL, hzB, hoL_eq, hoB_eq, e, ho, hd, ro0, rd, (gd_ad rm rs sf).1, (gd_ad rm rs sf).2, gdq_y (show (0 : Int) = 0 from rfl)]
 refine ⟨?_, fun h0 => ?_⟩
 refine ?a0; rotate_left
 refine ⟨?_, fun h1 => ?_⟩
 refine ?a1; rotate_left
 refine ⟨?_, fun h2 => ?_⟩
 refine ?a2; rotate_left
 refine ⟨?_, fun h3 => ?_⟩
 refine ?a3; rotate_left
 refine ⟨?_, fun h4 => ?_⟩
 refine ?a4; rotate_left
 refine ⟨?_, fun h5 => ?_⟩
 refine ?a5; rotate_left
 refine ⟨?_, fun h6 => ?_⟩
 refine ?a6; rotate_left
 refine ⟨?_, fun h7 => ?_⟩
 refine ?a7; rotate_left
 refine ⟨fun h8 => ?_, fun h8 => ?_⟩
 refine ⟨fun h9 => ?_, fun h9 => ?_⟩
 refine ?a8; rotate_left
 refine ⟨fun h10 => ?_, fun h10 => ?_⟩
 refine ?a9; rotate_left
 refine ⟨?_, fun h11 => ?_⟩
 refine ?a10; rotate_left
 refine ⟨?_, fun h12 => ?_⟩
 refine ?a11; rotate_left
 refine ⟨fun h13 => ?_, fun h13 => ?_⟩
 refine ?a12; rotate_left
 refine ⟨?_, fun h14 => ?_⟩
 refine ?a13; rotate_left
 refine ⟨fun h15 => ?_, fun h15 => ?_⟩
 refine ⟨fun h16 => ?_, fun h16 => ?_⟩
 refine ⟨fun h17 => ?_, fun h17 => ?_⟩
 refine ?a14; rotate_left
 refine ?a15; rotate_left
 refine ⟨fun h18 => ?_, fun h18 => ?_⟩
 refine ⟨fun h19 => ?_, fun h19 => ?_⟩
 refine ?a16; rotate_left
 refine ?a17; rotate_left
 refine ?a18; rotate_left
 refine ?a19; rotate_left
 refine ⟨fun h20 => ?_, fun h20 => ?_⟩
 refine ?a20; rotate_left
 refine ⟨fun h21 => ?_, fun h21 => ?_⟩
 refine ?a21; rotate_left
 refine ⟨?_, fun h22 => ?_⟩
 refine ?a22; rotate_left
 refine ⟨?_, fun h23 => ?_⟩
 refine ?a23; rotate_left
 refine ⟨fun h24 => ?_, fun h24 => ?_⟩
 refine ?a24; rotate_left
 refine ⟨?_, fun h25 => ?_⟩
 refine ?a25; rotate_left
 refine ⟨fun h26 => ?_, fun h26 => ?_⟩
 refine ⟨fun h27 => ?_, fun h27 => ?_⟩
 refine ⟨fun h28 => ?_, fun h28 => ?_⟩
 refine ?a26; rotate_left
 refine ?a27; rotate_left
 refine ⟨fun h29 => ?_, fun h29 => ?_⟩
 refine ⟨fun h30 => ?_, fun h30 => ?_⟩
 refine ?a28; rotate_left
 refine ?a29; rotate_left
 refine ?a30; rotate_left
 refine ?a31; rotate_left
 case a0 | a1 | a2 | a3 | a4 | a5 | a6 | a7 | a10 | a11 | a13 | a22 | a23 | a25 =>
  first
  | exact True.intro
  | exact hc0
  | exact ⟨hc0, hk0⟩
  | exact ⟨hc0, hk0, ha0, hb0⟩
  | exact ⟨hc0, hk0, ha0, hb0, hx⟩
  | exact ⟨hc0, hk0, ha0, hb0, hn⟩
  | exact ⟨hc0, hk0, ha0, hb0, True.intro⟩
  | exact ⟨hc0, hk0, ha0, hb0, fun h => h⟩
  | exact ⟨hc0, hk0, ha0, hb0, Bool.false_ne_true⟩
  | omega
  | skip
 case a8 | a9 | a12 | a14 | a15 | a16 | a17 | a18 | a19 | a20 | a21 | a24 | a26 | a27 | a28 | a29 | a30 | a31 =>
  first
  | exact True.intro
  | rfl
  | (exfalso; omega)
  | exact absurd True.intro (by assumption)
  | (exfalso; simp only [and_self, true_and, and_true, not_true_eq_false, not_false_eq_true, iff_self, Bool.false_eq_true, iff_true, iff_false, true_iff, false_iff, one_ne_zero] at *; done)
  | (exfalso; simp at *; done)
  | skip
theorem hag_wTellsV : hac_wTellsV.Good Tryz.prog syG (haE [] [] [] []) := good_of_walk (Γ := ⟨[ykc_give, yic_now, hac_rnow18, yjc_sync, hac_rsyncv, ykc_hnew, hac_hfacg, yhc_radjust, hac_rmay18, yic_hcheck, ykc_drop, ykc_num, ykc_sure18], syG, [], [], []⟩) (ρ := haE [] [] [] []) sym wTellsV_w rfl (fun _ _ _ _ => (ok_cons (Con.Good.env (Con.Good.up ykg_give haup rfl) _ _ _ _) (ok_cons (Con.Good.env (Con.Good.up (Con.Good.up (Con.Good.up yig_now yjup rfl) ykup rfl) haup rfl) _ _ _ _) (ok_cons (Con.Good.env hag_rnow18 _ _ _ _) (ok_cons (Con.Good.env (Con.Good.up (Con.Good.up yjg_sync ykup rfl) haup rfl) _ _ _ _) (ok_cons (Con.Good.env hag_rsyncv _ _ _ _) (ok_cons (Con.Good.env (Con.Good.up ykg_hnew haup rfl) _ _ _ _) (ok_cons (Con.Good.env hag_hfacg _ _ _ _) (ok_cons (Con.Good.env (Con.Good.up (Con.Good.up (Con.Good.up (Con.Good.up yhg_radjust yiup rfl) yjup rfl) ykup rfl) haup rfl) _ _ _ _) (ok_cons (Con.Good.env hag_rmay18 _ _ _ _) (ok_cons (Con.Good.env (Con.Good.up (Con.Good.up (Con.Good.up yig_hcheck yjup rfl) ykup rfl) haup rfl) _ _ _ _) (ok_cons (Con.Good.env (Con.Good.up ykg_drop haup rfl) _ _ _ _) (ok_cons (Con.Good.env (Con.Good.up ykg_num haup rfl) _ _ _ _) (ok_cons (Con.Good.env (Con.Good.up ykg_sure18 haup rfl) _ _ _ _) ok_nil)))))))))))))) wTellsV_h
theorem good_split {P : Program} {G : Glob} {ρ : Env} {c : Con} (C : Tm) (h1 : Con.Good P G ρ { c with cnd := .b2 .and c.cnd C }) (h2 : Con.Good P G ρ { c with cnd := .b2 .and c.cnd (.not C) }) : c.Good P G ρ := by
 intro iv bv vv sv β ok w xs n1 n2 n3 n4 hc ho hG hr he
 by_cases h : holds { ρ with iv := iv, bv := bv, vv := vv, sv := sv } C
 · exact h1 iv bv vv sv β ok w xs n1 n2 n3 n4 ⟨hc, h⟩ ho hG hr he
 · exact h2 iv bv vv sv β ok w xs n1 n2 n3 n4 ⟨hc, h⟩ ho hG hr he
abbrev hac_wTells : Con := ⟨3, [xrhaqhtk9_, (.int .i64 (.var 12)), xrhaqhtk39_], (an_ xrhaqhtk1_ (an_ xrhaqhtk24_ xrhaqhtk33_)), (.bool (.tt true)), ⟨15, 1, 0, 0⟩, none⟩
theorem hag_wTells : hac_wTells.Good Tryz.prog syG (haE [] [] [] []) := by
 exact good_split (.bapp 4 (.cons (.tup (.cons (.int .u32 v0_) (.cons z1_ (.cons z2_ (.cons z3_ (.cons z4_ (.cons z5_ (.cons z6_ (.cons (.bool (.bvar 0)) (.cons z7_ (.cons z8_ (.cons z9_ (.cons (.int .i64 (.var 10)) (.cons (.int .i64 (.var 11)) .nil)))))))))))))) .nil)) hag_wTellsV hag_wTellsX
end Go.Proofs.YtjcgmdgkdkfdpaaGreatDoor
