/-
 Layer 30 by the second engine: what parts come to.
-/
import Derived.Test.YtgondiedehjkhaaGreatDoorSycbnd
import Derived.Test.YtgondiedehjkhaaGreatDoorBxbnd
import Derived.Test.YtgondiedehjkhaaGreatDoorE00bnd
namespace Go.Proofs.YtgondiedehjkhaaGreatDoor
open Go.RowKit Go.Extern.Stop Go.Stop Go.Extern Go.Proofs.YtgondiedehjkhaaGreatDoor.Sy
set_option linter.unusedVariables false
set_option linter.unusedSimpArgs false
abbrev xrbvbndk8_ : Tm := (.iapp 5 (.cons (.int .i64 (.iapp 2 (.cons (.int .i64 (.i2 .add (.lit (0)) (.var 0))) .nil))) (.cons (.int .i64 (.iapp 4 (.cons (.int .i64 (.i2 .add (.lit (0)) (.var 0))) .nil))) .nil)))
abbrev xrbvbndk0_ : Tm := (.iapp 5 (.cons (.int .i64 (.iapp 2 (.cons (.int .i64 (.i2 .add (.iapp 5 (.cons (.int .i64 (.iapp 2 (.cons (.int .i64 (.i2 .add xrbvbndk8_ (.var 1))) .nil))) (.cons (.int .i64 (.iapp 4 (.cons (.int .i64 (.i2 .add xrbvbndk8_ (.var 1))) .nil))) .nil))) (.var 2))) .nil))) (.cons (.int .i64 (.iapp 4 (.cons (.int .i64 (.i2 .add (.iapp 5 (.cons (.int .i64 (.iapp 2 (.cons (.int .i64 (.i2 .add xrbvbndk8_ (.var 1))) .nil))) (.cons (.int .i64 (.iapp 4 (.cons (.int .i64 (.i2 .add xrbvbndk8_ (.var 1))) .nil))) .nil))) (.var 2))) .nil))) .nil)))
abbrev xrbvbndk1_ : Tm := (.iapp 38 (.cons (.int .i64 (.iapp 31 (.cons (.int .i64 (.var 11)) (.cons (.int .i64 (.var 12)) (.cons (.int .i64 (.var 13)) (.cons (.int .i64 (.var 14)) (.cons (.int .i64 (.var 15)) (.cons (.int .i64 (.var 16)) (.cons (.str 0) (.cons (.int .i64 (.var 17)) (.cons (.opq 0) .nil))))))))))) (.cons (.int .i64 (.var 20)) (.cons (.int .i64 (.iapp 20 (.cons (.int .i64 (.var 0)) (.cons (.int .i64 (.var 1)) (.cons (.int .i64 (.var 2)) (.cons (.int .i64 (.var 3)) (.cons (.int .u32 (.var 4)) (.cons (.int .i64 (.var 5)) (.cons (.int .u32 (.var 6)) (.cons (.int .i64 (.var 7)) (.cons (.int .i64 (.var 8)) (.cons (.int .i64 (.var 9)) (.cons (.int .i64 (.var 10)) .nil))))))))))))) .nil))))
abbrev xrbvbndk2_ : Tm := (.iapp 5 (.cons (.int .i64 (.iapp 2 (.cons (.int .i64 (.i2 .add (.iapp 5 (.cons (.int .i64 (.iapp 2 (.cons (.int .i64 (.i2 .add xrbvbndk0_ (.var 3))) .nil))) (.cons (.int .i64 (.iapp 4 (.cons (.int .i64 (.i2 .add xrbvbndk0_ (.var 3))) .nil))) .nil))) (.var 4))) .nil))) (.cons (.int .i64 (.iapp 4 (.cons (.int .i64 (.i2 .add (.iapp 5 (.cons (.int .i64 (.iapp 2 (.cons (.int .i64 (.i2 .add xrbvbndk0_ (.var 3))) .nil))) (.cons (.int .i64 (.iapp 4 (.cons (.int .i64 (.i2 .add xrbvbndk0_ (.var 3))) .nil))) .nil))) (.var 4))) .nil))) .nil)))
abbrev xrbvbndk17_ : Tm := (.b2 .and (.b2 .le (.lit (-9223372036854775808)) (.var 0)) (.b2 .le (.var 0) (.lit (9223372036854775807))))
abbrev xrbvbndk3_ : Tm := (.b2 .and xrbvbndk17_ (.b2 .and (.b2 .and (.b2 .le (.lit (-9223372036854775808)) (.var 1)) (.b2 .le (.var 1) (.lit (9223372036854775807)))) (.b2 .and (.b2 .and (.b2 .le (.lit (-9223372036854775808)) (.var 2)) (.b2 .le (.var 2) (.lit (9223372036854775807)))) (.b2 .and (.b2 .and (.b2 .le (.lit (-9223372036854775808)) (.var 3)) (.b2 .le (.var 3) (.lit (9223372036854775807)))) (.b2 .and (.b2 .and (.b2 .le (.lit (-9223372036854775808)) (.var 4)) (.b2 .le (.var 4) (.lit (9223372036854775807)))) (.b2 .and (.b2 .and (.b2 .le (.lit (-9223372036854775808)) (.var 5)) (.b2 .le (.var 5) (.lit (9223372036854775807)))) (.b2 .and (.b2 .le (.lit (-9223372036854775808)) (.var 6)) (.b2 .le (.var 6) (.lit (9223372036854775807))))))))))
abbrev xrbvbndk4_ : Tm := (.iapp 35 (.cons (.int .i64 xrbvbndk1_) (.cons (.int .i64 (.iapp 10 (.cons (.int .i64 (.iapp 1 (.cons (.int .i64 (.i2 .add (.iapp 12 (.cons (.int .u32 (.var 6)) (.cons (.int .i64 (.var 7)) (.cons (.int .i64 (.i2 .sub (.var 10) (.var 1))) .nil)))) (.lit (1)))) .nil))) (.cons (.int .i64 (.var 8)) .nil)))) .nil)))
abbrev xrbvbndk5_ : Tm := (.iapp 1 (.cons (.int .i64 (.i2 .add (.iapp 1 (.cons (.int .i64 (.i2 .add (.iapp 1 (.cons (.int .i64 (.i2 .add (.lit (0)) (.var 0))) .nil)) (.var 1))) .nil)) (.var 2))) .nil))
abbrev xrbvbndk6_ : Tm := (.iapp 35 (.cons (.int .i64 xrbvbndk1_) (.cons (.int .i64 (.i2 .add (.iapp 11 (.cons (.int .i64 (.i2 .sub (.var 10) (.var 1))) (.cons (.int .i64 (.var 7)) .nil))) (.lit (4)))) .nil)))
abbrev xrbvbndk7_ : Tm := (.b2 .and xrbvbndk17_ (.b2 .and (.b2 .and (.b2 .le (.lit (-9223372036854775808)) (.var 1)) (.b2 .le (.var 1) (.lit (9223372036854775807)))) (.b2 .and (.b2 .and (.b2 .le (.lit (-9223372036854775808)) (.var 2)) (.b2 .le (.var 2) (.lit (9223372036854775807)))) (.b2 .and (.b2 .and (.b2 .le (.lit (-9223372036854775808)) (.var 3)) (.b2 .le (.var 3) (.lit (9223372036854775807)))) (.b2 .and (.b2 .and (.b2 .le (.lit (0)) (.var 4)) (.b2 .le (.var 4) (.lit (4294967295)))) (.b2 .and (.b2 .and (.b2 .le (.lit (-9223372036854775808)) (.var 5)) (.b2 .le (.var 5) (.lit (9223372036854775807)))) (.b2 .and (.b2 .and (.b2 .le (.lit (0)) (.var 6)) (.b2 .le (.var 6) (.lit (4294967295)))) (.b2 .and (.b2 .and (.b2 .le (.lit (-9223372036854775808)) (.var 7)) (.b2 .le (.var 7) (.lit (9223372036854775807)))) (.b2 .and (.b2 .and (.b2 .le (.lit (-9223372036854775808)) (.var 8)) (.b2 .le (.var 8) (.lit (9223372036854775807)))) (.b2 .and (.b2 .le (.lit (-9223372036854775808)) (.var 9)) (.b2 .le (.var 9) (.lit (9223372036854775807)))))))))))))
abbrev xrbvbndk9_ : Tm := (.b2 .and (.b2 .and (.b2 .le (.lit (-9223372036854775808)) (.var 11)) (.b2 .le (.var 11) (.lit (9223372036854775807)))) (.b2 .and (.b2 .and (.b2 .le (.lit (-9223372036854775808)) (.var 12)) (.b2 .le (.var 12) (.lit (9223372036854775807)))) (.b2 .and (.b2 .and (.b2 .le (.lit (-9223372036854775808)) (.var 13)) (.b2 .le (.var 13) (.lit (9223372036854775807)))) (.b2 .and (.b2 .and (.b2 .le (.lit (-9223372036854775808)) (.var 14)) (.b2 .le (.var 14) (.lit (9223372036854775807)))) (.b2 .and (.b2 .and (.b2 .le (.lit (-9223372036854775808)) (.var 15)) (.b2 .le (.var 15) (.lit (9223372036854775807)))) (.b2 .and (.b2 .and (.b2 .le (.lit (-9223372036854775808)) (.var 16)) (.b2 .le (.var 16) (.lit (9223372036854775807)))) (.b2 .and (.b2 .le (.lit (-9223372036854775808)) (.var 17)) (.b2 .le (.var 17) (.lit (9223372036854775807))))))))))
abbrev xrbvbndk10_ : Tm := (.iapp 40 (.cons (.int .i64 (.var 0)) (.cons (.int .i64 (.var 1)) (.cons (.int .i64 (.var 2)) (.cons (.int .i64 (.var 3)) (.cons (.int .i64 (.var 4)) (.cons (.int .i64 (.var 5)) (.cons (.int .i64 (.var 6)) .nil))))))))
abbrev xrbvbndk16_ : Tm := (.iapp 35 (.cons (.int .i64 xrbvbndk1_) (.cons (.int .i64 (.var 3)) .nil)))
abbrev xrbvbndk11_ : Tm := (.b2 .eq (.iapp 40 (.cons (.int .i64 xrbvbndk16_) (.cons (.int .i64 xrbvbndk4_) (.cons (.int .i64 xrbvbndk6_) (.cons (.int .i64 (.iapp 35 (.cons (.int .i64 xrbvbndk1_) (.cons (.int .i64 (.var 15)) .nil)))) (.cons (.int .i64 (.iapp 35 (.cons (.int .i64 xrbvbndk1_) (.cons (.int .i64 (.i2 .sub (.var 14) (.lit (1)))) .nil)))) (.cons (.int .i64 (.iapp 35 (.cons (.int .i64 xrbvbndk1_) (.cons (.int .i64 (.iapp 39 (.cons (.int .i64 (.var 11)) .nil))) .nil)))) (.cons (.int .i64 (.iapp 35 (.cons (.int .i64 xrbvbndk1_) (.cons (.int .i64 (.var 20)) .nil)))) .nil)))))))) (.var 19))
abbrev xrbvbndk12_ : Tm := (.iapp 5 (.cons (.int .i64 (.iapp 2 (.cons (.int .i64 (.i2 .add xrbvbndk2_ (.var 5))) .nil))) (.cons (.int .i64 (.iapp 4 (.cons (.int .i64 (.i2 .add xrbvbndk2_ (.var 5))) .nil))) .nil)))
abbrev xrbvbndk13_ : Tm := (.b2 .and (.b2 .and (.b2 .le (.lit (-9223372036854775808)) (.iapp 1 (.cons (.int .i64 (.i2 .add (.iapp 1 (.cons (.int .i64 (.i2 .add (.lit (0)) (.var 0))) .nil)) (.var 1))) .nil))) (.b2 .le (.iapp 1 (.cons (.int .i64 (.i2 .add (.iapp 1 (.cons (.int .i64 (.i2 .add (.lit (0)) (.var 0))) .nil)) (.var 1))) .nil)) (.lit (9223372036854775807)))) (.b2 .and (.b2 .le (.lit (-9223372036854775808)) (.var 2)) (.b2 .le (.var 2) (.lit (9223372036854775807)))))
abbrev xrbvbndk14_ : Tm := (.iapp 1 (.cons (.int .i64 (.i2 .add (.iapp 1 (.cons (.int .i64 (.i2 .add xrbvbndk5_ (.var 3))) .nil)) (.var 4))) .nil))
abbrev xrbvbndk15_ : Tm := (.b2 .and (.b2 .and (.b2 .le (.lit (-9223372036854775808)) (.iapp 1 (.cons (.int .i64 (.i2 .add (.lit (0)) (.var 0))) .nil))) (.b2 .le (.iapp 1 (.cons (.int .i64 (.i2 .add (.lit (0)) (.var 0))) .nil)) (.lit (9223372036854775807)))) (.b2 .and (.b2 .le (.lit (-9223372036854775808)) (.var 1)) (.b2 .le (.var 1) (.lit (9223372036854775807)))))
abbrev xrbvbndk18_ : Tm := (.b2 .eq (.iapp 40 (.cons (.int .i64 xrbvbndk16_) (.cons (.int .i64 xrbvbndk4_) (.cons (.int .i64 xrbvbndk6_) (.cons (.int .i64 (.lit (0))) (.cons (.int .i64 (.lit (0))) (.cons (.int .i64 (.lit (0))) (.cons (.int .i64 (.lit (0))) .nil)))))))) (.var 21))
abbrev xrbvbndk19_ : Tm := (.agg (.cons (.int .i64 (.var 0)) (.cons (.int .i64 (.var 1)) (.cons (.int .i64 (.var 2)) (.cons (.int .i64 (.var 3)) (.cons (.int .i64 (.var 4)) (.cons (.int .i64 (.var 5)) (.cons (.int .i64 (.var 6)) .nil))))))))
noncomputable def bvI : Nat → List Value → Int
 | i, l => bxI i l
noncomputable def bvB : Nat → List Value → Bool
 | i, l => bxB i l
noncomputable def bvV : Nat → List Value → Value
 | i, l => bxV i l
noncomputable abbrev bvE (iv : List Int) (bv : List Bool) (vv : List Value) (sv : List ByteArray) : Env := { iv := iv, bv := bv, vv := vv, sv := sv, fi := bvI, fb := bvB, fv := bvV, et := 111 }
set_option maxHeartbeats 8000000 in
theorem bvup : Agree 41 15 0 (bxE [] [] [] []) (bvE [] [] [] []) := ⟨rfl, (by
   intro f hf
   funext l
   show bvI f l = bxI f l
   unfold bvI
   split <;> first | rfl | omega), (by
   intro f hf
   funext l
   show bvB f l = bxB f l
   unfold bvB
   split <;> first | rfl | omega), (by
   intro f hf
   funext l
   show bvV f l = bxV f l
   unfold bvV
   split <;> first | rfl | omega)⟩
theorem bvi_sa (k1 : IntKind) (a : Int) : bvI 1 [.int k1 a] = satE a := rfl
theorem bvi_nv (k1 : IntKind) (a : Int) : bvI 2 [.int k1 a] = svE a := rfl
theorem bvi_so (k1 : IntKind) (a : Int) : bvI 4 [.int k1 a] = soE a := rfl
theorem bvi_bd (k1 : IntKind) (a : Int) (k2 : IntKind) (o : Int) : bvI 5 [.int k1 a, .int k2 o] = bdE a o := rfl
theorem bvi_up (k1 : IntKind) (g : Int) (k2 : IntKind) (r : Int) : bvI 10 [.int k1 g, .int k2 r] = upK (g * r) := rfl
theorem bvi_hv (k1 : IntKind) (n : Int) (k2 : IntKind) (s : Int) : bvI 11 [.int k1 n, .int k2 s] = n / 2 ^ s.toNat := rfl
theorem bvi_q (k1 : IntKind) (a : Int) (k2 : IntKind) (s : Int) (k3 : IntKind) (g : Int) : bvI 12 [.int k1 a, .int k2 s, .int k3 g] = qE a s g := rfl
theorem bvi_tme (k1 : IntKind) (e : Int) (k2 : IntKind) (b : Int) (k3 : IntKind) (t : Int) (k4 : IntKind) (r : Int) (k5 : IntKind) (gm : Int) (k6 : IntKind) (gs : Int) (k7 : IntKind) (pm : Int) (k8 : IntKind) (ps : Int) (k9 : IntKind) (p : Int) (k10 : IntKind) (c : Int) (k11 : IntKind) (k : Int) : bvI 20 [.int k1 e, .int k2 b, .int k3 t, .int k4 r, .int k5 gm, .int k6 gs, .int k7 pm, .int k8 ps, .int k9 p, .int k10 c, .int k11 k] = tmE e b t r gm gs pm ps p c k := rfl
theorem bvi_poe (k1 : IntKind) (k : Int) (k2 : IntKind) (b : Int) (k3 : IntKind) (a : Int) (k4 : IntKind) (q : Int) (k5 : IntKind) (w : Int) (k6 : IntKind) (c : Int) (s : ByteArray) (k7 : IntKind) (f : Int) (l : Value) : bvI 31 [.int k1 k, .int k2 b, .int k3 a, .int k4 q, .int k5 w, .int k6 c, .string s, .int k7 f, l] = poE k b a q w c s f (rows l) := rfl
theorem bvi_gdw (k1 : IntKind) (e : Int) (k2 : IntKind) (x : Int) : bvI 35 [.int k1 e, .int k2 x] = gdF e x := rfl
theorem bvi_boe (k1 : IntKind) (p : Int) (k2 : IntKind) (r : Int) (k3 : IntKind) (t : Int) : bvI 38 [.int k1 p, .int k2 r, .int k3 t] = boE p r t := rfl
theorem bvi_lp (k1 : IntKind) (k : Int) : bvI 39 [.int k1 k] = lpI k := rfl
theorem bvi_sm (k1 : IntKind) (a : Int) (k2 : IntKind) (b : Int) (k3 : IntKind) (c : Int) (k4 : IntKind) (d : Int) (k5 : IntKind) (e : Int) (k6 : IntKind) (f : Int) (k7 : IntKind) (g : Int) : bvI 40 [.int k1 a, .int k2 b, .int k3 c, .int k4 d, .int k5 e, .int k6 f, .int k7 g] = smI a b c d e f g := rfl
def tot7_tree : Tree :=
 (.need xrbvbndk17_
 (.need xrbvbndk15_
 (.need xrbvbndk13_
 (.need (.b2 .and (.b2 .and (.b2 .le (.lit (-9223372036854775808)) xrbvbndk5_) (.b2 .le xrbvbndk5_ (.lit (9223372036854775807)))) (.b2 .and (.b2 .le (.lit (-9223372036854775808)) (.var 3)) (.b2 .le (.var 3) (.lit (9223372036854775807)))))
 (.need (.b2 .and (.b2 .and (.b2 .le (.lit (-9223372036854775808)) (.iapp 1 (.cons (.int .i64 (.i2 .add xrbvbndk5_ (.var 3))) .nil))) (.b2 .le (.iapp 1 (.cons (.int .i64 (.i2 .add xrbvbndk5_ (.var 3))) .nil)) (.lit (9223372036854775807)))) (.b2 .and (.b2 .le (.lit (-9223372036854775808)) (.var 4)) (.b2 .le (.var 4) (.lit (9223372036854775807)))))
 (.need (.b2 .and (.b2 .and (.b2 .le (.lit (-9223372036854775808)) xrbvbndk14_) (.b2 .le xrbvbndk14_ (.lit (9223372036854775807)))) (.b2 .and (.b2 .le (.lit (-9223372036854775808)) (.var 5)) (.b2 .le (.var 5) (.lit (9223372036854775807)))))
 (.need (.b2 .and (.b2 .and (.b2 .le (.lit (-9223372036854775808)) (.iapp 1 (.cons (.int .i64 (.i2 .add xrbvbndk14_ (.var 5))) .nil))) (.b2 .le (.iapp 1 (.cons (.int .i64 (.i2 .add xrbvbndk14_ (.var 5))) .nil)) (.lit (9223372036854775807)))) (.b2 .and (.b2 .le (.lit (-9223372036854775808)) (.var 6)) (.b2 .le (.var 6) (.lit (9223372036854775807)))))
 (.ret (.int .i64 (.iapp 1 (.cons (.int .i64 (.i2 .add (.iapp 1 (.cons (.int .i64 (.i2 .add xrbvbndk14_ (.var 5))) .nil)) (.var 6))) .nil)))))))))))
abbrev bvc_tot7 : Con := ⟨78, [(.hs .no (.cons (.int .i64) .nil) (.tup (.cons (.int .i64 (.var 0)) (.cons (.int .i64 (.var 1)) (.cons (.int .i64 (.var 2)) (.cons (.int .i64 (.var 3)) (.cons (.int .i64 (.var 4)) (.cons (.int .i64 (.var 5)) (.cons (.int .i64 (.var 6)) .nil)))))))))], xrbvbndk3_, (.int .i64 xrbvbndk10_), ⟨7, 0, 0, 0⟩, none⟩
theorem tot7_w : walk Tryz.prog 111 ⟨[yac_addsat], syG, [], [], []⟩ [] .v bvc_tot7 bvc_tot7.n 3000 = some tot7_tree := by kernel_rfl
theorem tot7_h (a b c d e g h : Int) : Hyp_ bvc_tot7 tot7_tree (bvE [a, b, c, d, e, g, h] [] [] []) := by
 intro hc hty
 simp only [bvc_tot7, Sy.holds, bvE, denV, denI, denB, denL, I2.den, VOp.den, List.getD_cons_zero, List.getD_cons_succ, Cst.den, syso, syse, syio, sybo, B2.ofInts, B2.denI, B2.denB, if_true, Bool.false_eq_true, if_false, Nat.div_one, Nat.mul_one, Nat.add_zero] at hc
 simp only [bvc_tot7, patsTyp, patTyp, patTypL, bvE, denV, denL, List.getD_cons_zero, List.getD_cons_succ, and_true, true_and] at hty
 unfold tot7_tree
 simp only [bvc_tot7, Tree.holds, Sy.holds, bvE, denV, denI, denB, denL, I2.den, VOp.den, List.getD_cons_zero, List.getD_cons_succ, Cst.den, syso, syse, syio, sybo, bvi_sa, bvi_sm, B2.ofInts, B2.denI, B2.denB, if_true, Bool.false_eq_true, if_false, Nat.div_one, Nat.mul_one, Nat.add_zero]
 have q0 := satR (0 + a)
 have q1 := satR (satE (0 + a) + b)
 have q2 := satR (satE (satE (0 + a) + b) + c)
 have q3 := satR (satE (satE (satE (0 + a) + b) + c) + d)
 have q4 := satR (satE (satE (satE (satE (0 + a) + b) + c) + d) + e)
 have q5 := satR (satE (satE (satE (satE (satE (0 + a) + b) + c) + d) + e) + g)
 refine ⟨?_, fun h0 => ?_⟩
 ·
  omega
 refine ⟨?_, fun h1 => ?_⟩
 ·
  omega
 refine ⟨?_, fun h2 => ?_⟩
 ·
  omega
 refine ⟨?_, fun h3 => ?_⟩
 ·
  omega
 refine ⟨?_, fun h4 => ?_⟩
 ·
  omega
 refine ⟨?_, fun h5 => ?_⟩
 ·
  omega
 refine ⟨?_, fun h6 => ?_⟩
 ·
  omega
 ·
  first | exact True.intro | rfl | skip
theorem bvg_tot7 : bvc_tot7.Good Tryz.prog syG (bvE [] [] [] []) := good_of_walk (Γ := ⟨[yac_addsat], syG, [], [], []⟩) (ρ := bvE [] [] [] []) sym tot7_w rfl (fun _ _ _ _ => (ok_cons (Con.Good.env (Con.Good.up (Con.Good.up (Con.Good.up (Con.Good.up (Con.Good.up yag_addsat ybup rfl) bzup rfl) byup rfl) bxup rfl) bvup rfl) _ _ _ _) ok_nil)) tot7_h
def tot3_tree : Tree :=
 (.need xrbvbndk17_
 (.need xrbvbndk15_
 (.need xrbvbndk13_
 (.ret (.int .i64 xrbvbndk5_)))))
abbrev bvc_tot3 : Con := ⟨78, [(.hs .no (.cons (.int .i64) .nil) (.tup (.cons (.int .i64 (.var 0)) (.cons (.int .i64 (.var 1)) (.cons (.int .i64 (.var 2)) .nil)))))], (.b2 .and xrbvbndk17_ (.b2 .and (.b2 .and (.b2 .le (.lit (-9223372036854775808)) (.var 1)) (.b2 .le (.var 1) (.lit (9223372036854775807)))) (.b2 .and (.b2 .le (.lit (-9223372036854775808)) (.var 2)) (.b2 .le (.var 2) (.lit (9223372036854775807)))))), (.int .i64 (.iapp 40 (.cons (.int .i64 (.var 0)) (.cons (.int .i64 (.var 1)) (.cons (.int .i64 (.var 2)) (.cons (.int .i64 (.lit (0))) (.cons (.int .i64 (.lit (0))) (.cons (.int .i64 (.lit (0))) (.cons (.int .i64 (.lit (0))) .nil))))))))), ⟨3, 0, 0, 0⟩, none⟩
theorem tot3_w : walk Tryz.prog 111 ⟨[yac_addsat], syG, [], [], []⟩ [] .v bvc_tot3 bvc_tot3.n 3000 = some tot3_tree := by kernel_rfl
theorem tot3_h (a b c : Int) : Hyp_ bvc_tot3 tot3_tree (bvE [a, b, c] [] [] []) := by
 intro hc hty
 simp only [bvc_tot3, Sy.holds, bvE, denV, denI, denB, denL, I2.den, VOp.den, List.getD_cons_zero, List.getD_cons_succ, Cst.den, syso, syse, syio, sybo, B2.ofInts, B2.denI, B2.denB, if_true, Bool.false_eq_true, if_false, Nat.div_one, Nat.mul_one, Nat.add_zero] at hc
 simp only [bvc_tot3, patsTyp, patTyp, patTypL, bvE, denV, denL, List.getD_cons_zero, List.getD_cons_succ, and_true, true_and] at hty
 unfold tot3_tree
 simp only [bvc_tot3, Tree.holds, Sy.holds, bvE, denV, denI, denB, denL, I2.den, VOp.den, List.getD_cons_zero, List.getD_cons_succ, Cst.den, syso, syse, syio, sybo, bvi_sa, bvi_sm, B2.ofInts, B2.denI, B2.denB, if_true, Bool.false_eq_true, if_false, Nat.div_one, Nat.mul_one, Nat.add_zero]
 have q0 := satR (0 + a)
 have q1 := satR (satE (0 + a) + b)
 have q2 := satR (satE (satE (0 + a) + b) + c)
 refine ⟨?_, fun h0 => ?_⟩
 ·
  omega
 refine ⟨?_, fun h1 => ?_⟩
 ·
  omega
 refine ⟨?_, fun h2 => ?_⟩
 ·
  omega
 ·
  unfold smI
  rw [sat4 (satE (satE (0 + a) + b) + c) q2.1 q2.2]
  first | done | rfl | skip
theorem bvg_tot3 : bvc_tot3.Good Tryz.prog syG (bvE [] [] [] []) := good_of_walk (Γ := ⟨[yac_addsat], syG, [], [], []⟩) (ρ := bvE [] [] [] []) sym tot3_w rfl (fun _ _ _ _ => (ok_cons (Con.Good.env (Con.Good.up (Con.Good.up (Con.Good.up (Con.Good.up (Con.Good.up yag_addsat ybup rfl) bzup rfl) byup rfl) bxup rfl) bvup rfl) _ _ _ _) ok_nil)) tot3_h
def bsum_tree : Tree :=
 (.need xrbvbndk3_
 (.ret (.int .i64 xrbvbndk10_)))
abbrev bvc_bsum : Con := ⟨32, [xrbvbndk19_], xrbvbndk3_, (.int .i64 xrbvbndk10_), ⟨7, 0, 0, 0⟩, none⟩
theorem bsum_w : walk Tryz.prog 111 ⟨[bvc_tot7], syG, [], [], []⟩ [] .v bvc_bsum bvc_bsum.n 3000 = some bsum_tree := by kernel_rfl
theorem bsum_h (a b c d e g h : Int) : Hyp_ bvc_bsum bsum_tree (bvE [a, b, c, d, e, g, h] [] [] []) := by
 intro hc hty
 simp only [bvc_bsum, Sy.holds, bvE, denV, denI, denB, denL, I2.den, VOp.den, List.getD_cons_zero, List.getD_cons_succ, Cst.den, syso, syse, syio, sybo, B2.ofInts, B2.denI, B2.denB, if_true, Bool.false_eq_true, if_false, Nat.div_one, Nat.mul_one, Nat.add_zero] at hc
 simp only [bvc_bsum, patsTyp, patTyp, patTypL, bvE, denV, denL, List.getD_cons_zero, List.getD_cons_succ, and_true, true_and] at hty
 unfold bsum_tree
 simp only [bvc_bsum, Tree.holds, Sy.holds, bvE, denV, denI, denB, denL, I2.den, VOp.den, List.getD_cons_zero, List.getD_cons_succ, Cst.den, syso, syse, syio, sybo, bvi_sm, B2.ofInts, B2.denI, B2.denB, if_true, Bool.false_eq_true, if_false, Nat.div_one, Nat.mul_one, Nat.add_zero]
 refine ⟨?_, fun h0 => ?_⟩
 ·
  first
  | exact hc
  | omega
  | skip
 ·
  first | exact True.intro | rfl | skip
theorem bvg_bsum : bvc_bsum.Good Tryz.prog syG (bvE [] [] [] []) := good_of_walk (Γ := ⟨[bvc_tot7], syG, [], [], []⟩) (ρ := bvE [] [] [] []) sym bsum_w rfl (fun _ _ _ _ => (ok_cons (Con.Good.env bvg_tot7 _ _ _ _) ok_nil)) bsum_h
def rbsum_tree : Tree :=
 (.need xrbvbndk17_
 (.need (.b2 .and (.b2 .and (.b2 .le (.lit (-9223372036854775808)) xrbvbndk8_) (.b2 .le xrbvbndk8_ (.lit (9223372036854775807)))) (.b2 .and (.b2 .le (.lit (-9223372036854775808)) (.var 1)) (.b2 .le (.var 1) (.lit (9223372036854775807)))))
 (.need (.b2 .and (.b2 .and (.b2 .le (.lit (-9223372036854775808)) (.iapp 5 (.cons (.int .i64 (.iapp 2 (.cons (.int .i64 (.i2 .add xrbvbndk8_ (.var 1))) .nil))) (.cons (.int .i64 (.iapp 4 (.cons (.int .i64 (.i2 .add xrbvbndk8_ (.var 1))) .nil))) .nil)))) (.b2 .le (.iapp 5 (.cons (.int .i64 (.iapp 2 (.cons (.int .i64 (.i2 .add xrbvbndk8_ (.var 1))) .nil))) (.cons (.int .i64 (.iapp 4 (.cons (.int .i64 (.i2 .add xrbvbndk8_ (.var 1))) .nil))) .nil))) (.lit (9223372036854775807)))) (.b2 .and (.b2 .le (.lit (-9223372036854775808)) (.var 2)) (.b2 .le (.var 2) (.lit (9223372036854775807)))))
 (.need (.b2 .and (.b2 .and (.b2 .le (.lit (-9223372036854775808)) xrbvbndk0_) (.b2 .le xrbvbndk0_ (.lit (9223372036854775807)))) (.b2 .and (.b2 .le (.lit (-9223372036854775808)) (.var 3)) (.b2 .le (.var 3) (.lit (9223372036854775807)))))
 (.need (.b2 .and (.b2 .and (.b2 .le (.lit (-9223372036854775808)) (.iapp 5 (.cons (.int .i64 (.iapp 2 (.cons (.int .i64 (.i2 .add xrbvbndk0_ (.var 3))) .nil))) (.cons (.int .i64 (.iapp 4 (.cons (.int .i64 (.i2 .add xrbvbndk0_ (.var 3))) .nil))) .nil)))) (.b2 .le (.iapp 5 (.cons (.int .i64 (.iapp 2 (.cons (.int .i64 (.i2 .add xrbvbndk0_ (.var 3))) .nil))) (.cons (.int .i64 (.iapp 4 (.cons (.int .i64 (.i2 .add xrbvbndk0_ (.var 3))) .nil))) .nil))) (.lit (9223372036854775807)))) (.b2 .and (.b2 .le (.lit (-9223372036854775808)) (.var 4)) (.b2 .le (.var 4) (.lit (9223372036854775807)))))
 (.need (.b2 .and (.b2 .and (.b2 .le (.lit (-9223372036854775808)) xrbvbndk2_) (.b2 .le xrbvbndk2_ (.lit (9223372036854775807)))) (.b2 .and (.b2 .le (.lit (-9223372036854775808)) (.var 5)) (.b2 .le (.var 5) (.lit (9223372036854775807)))))
 (.need (.b2 .and (.b2 .and (.b2 .le (.lit (-9223372036854775808)) xrbvbndk12_) (.b2 .le xrbvbndk12_ (.lit (9223372036854775807)))) (.b2 .and (.b2 .le (.lit (-9223372036854775808)) (.var 6)) (.b2 .le (.var 6) (.lit (9223372036854775807)))))
 (.ret (.int .i64 (.iapp 5 (.cons (.int .i64 (.iapp 2 (.cons (.int .i64 (.i2 .add xrbvbndk12_ (.var 6))) .nil))) (.cons (.int .i64 (.iapp 4 (.cons (.int .i64 (.i2 .add xrbvbndk12_ (.var 6))) .nil))) .nil))))))))))))
abbrev bvc_rbsum : Con := ⟨30, [xrbvbndk19_], xrbvbndk3_, (.int .i64 xrbvbndk10_), ⟨7, 0, 0, 0⟩, none⟩
theorem rbsum_w : walk Tryz.prog 111 ⟨[yac_rsum, yac_rbound], syG, [], [], []⟩ [] .v bvc_rbsum bvc_rbsum.n 3000 = some rbsum_tree := by kernel_rfl
theorem rbsum_h (a b c d e g h : Int) : Hyp_ bvc_rbsum rbsum_tree (bvE [a, b, c, d, e, g, h] [] [] []) := by
 intro hc hty
 simp only [bvc_rbsum, Sy.holds, bvE, denV, denI, denB, denL, I2.den, VOp.den, List.getD_cons_zero, List.getD_cons_succ, Cst.den, syso, syse, syio, sybo, B2.ofInts, B2.denI, B2.denB, if_true, Bool.false_eq_true, if_false, Nat.div_one, Nat.mul_one, Nat.add_zero] at hc
 simp only [bvc_rbsum, patsTyp, patTyp, patTypL, bvE, denV, denL, List.getD_cons_zero, List.getD_cons_succ, and_true, true_and] at hty
 unfold rbsum_tree
 simp only [bvc_rbsum, Tree.holds, Sy.holds, bvE, denV, denI, denB, denL, I2.den, VOp.den, List.getD_cons_zero, List.getD_cons_succ, Cst.den, syso, syse, syio, sybo, bvi_nv, bvi_so, bvi_bd, bvi_sm, B2.ofInts, B2.denI, B2.denB, if_true, Bool.false_eq_true, if_false, Nat.div_one, Nat.mul_one, Nat.add_zero]
 try simp only [bd_sat]
 have q0 := satR (0 + a)
 have q1 := satR (satE (0 + a) + b)
 have q2 := satR (satE (satE (0 + a) + b) + c)
 have q3 := satR (satE (satE (satE (0 + a) + b) + c) + d)
 have q4 := satR (satE (satE (satE (satE (0 + a) + b) + c) + d) + e)
 have q5 := satR (satE (satE (satE (satE (satE (0 + a) + b) + c) + d) + e) + g)
 refine ⟨?_, fun h0 => ?_⟩
 refine ?a0; rotate_left
 refine ⟨?_, fun h1 => ?_⟩
 refine ?a1; rotate_left
 refine ⟨?_, fun h2 => ?_⟩
 refine ?a2; rotate_left
 refine ⟨?_, fun h3 => ?_⟩
 refine ?a3; rotate_left
 refine ⟨?_, fun h4 => ?_⟩
 refine ?a4; rotate_left
 refine ⟨?_, fun h5 => ?_⟩
 refine ?a5; rotate_left
 refine ⟨?_, fun h6 => ?_⟩
 refine ?a6; rotate_left
 ·
  try simp only [bd_sat]
  first | exact True.intro | rfl | skip
 case a0 | a1 | a2 | a3 | a4 | a5 | a6 =>
  first
  | omega
  | (simp only [bd_sat]; omega)
  | skip
theorem bvg_rbsum : bvc_rbsum.Good Tryz.prog syG (bvE [] [] [] []) := good_of_walk (Γ := ⟨[yac_rsum, yac_rbound], syG, [], [], []⟩) (ρ := bvE [] [] [] []) sym rbsum_w rfl (fun _ _ _ _ => (ok_cons (Con.Good.env (Con.Good.up (Con.Good.up (Con.Good.up (Con.Good.up (Con.Good.up yag_rsum ybup rfl) bzup rfl) byup rfl) bxup rfl) bvup rfl) _ _ _ _) (ok_cons (Con.Good.env (Con.Good.up (Con.Good.up (Con.Good.up (Con.Good.up (Con.Good.up yag_rbound ybup rfl) bzup rfl) byup rfl) bxup rfl) bvup rfl) _ _ _ _) ok_nil))) rbsum_h
def btold_tree : Tree :=
 (.need (.b2 .and xrbvbndk7_ (.b2 .and (.b2 .and (.b2 .le (.lit (-9223372036854775808)) (.var 10)) (.b2 .le (.var 10) (.lit (9223372036854775807)))) (.b2 .and xrbvbndk9_ (.b2 .and (.b2 .le (.lit (-9223372036854775808)) (.var 20)) (.b2 .le (.var 20) (.lit (9223372036854775807)))))))
 (.br (.b2 .eq xrbvbndk1_ (.lit (0)))
 (.need (.b2 .and (.b2 .and (.b2 .le (.lit (-9223372036854775808)) xrbvbndk16_) (.b2 .le xrbvbndk16_ (.lit (9223372036854775807)))) (.b2 .and (.b2 .and (.b2 .le (.lit (-9223372036854775808)) xrbvbndk4_) (.b2 .le xrbvbndk4_ (.lit (9223372036854775807)))) (.b2 .and (.b2 .and (.b2 .le (.lit (-9223372036854775808)) xrbvbndk6_) (.b2 .le xrbvbndk6_ (.lit (9223372036854775807)))) (.b2 .and (.b2 .and (.b2 .le (.lit (-9223372036854775808)) (.iapp 35 (.cons (.int .i64 xrbvbndk1_) (.cons (.int .i64 (.var 15)) .nil)))) (.b2 .le (.iapp 35 (.cons (.int .i64 xrbvbndk1_) (.cons (.int .i64 (.var 15)) .nil))) (.lit (9223372036854775807)))) (.b2 .and (.b2 .and (.b2 .le (.lit (-9223372036854775808)) (.iapp 35 (.cons (.int .i64 xrbvbndk1_) (.cons (.int .i64 (.i2 .sub (.var 14) (.lit (1)))) .nil)))) (.b2 .le (.iapp 35 (.cons (.int .i64 xrbvbndk1_) (.cons (.int .i64 (.i2 .sub (.var 14) (.lit (1)))) .nil))) (.lit (9223372036854775807)))) (.b2 .and (.b2 .and (.b2 .le (.lit (-9223372036854775808)) (.iapp 35 (.cons (.int .i64 xrbvbndk1_) (.cons (.int .i64 (.iapp 39 (.cons (.int .i64 (.var 11)) .nil))) .nil)))) (.b2 .le (.iapp 35 (.cons (.int .i64 xrbvbndk1_) (.cons (.int .i64 (.iapp 39 (.cons (.int .i64 (.var 11)) .nil))) .nil))) (.lit (9223372036854775807)))) (.b2 .and (.b2 .le (.lit (-9223372036854775808)) (.iapp 35 (.cons (.int .i64 xrbvbndk1_) (.cons (.int .i64 (.var 20)) .nil)))) (.b2 .le (.iapp 35 (.cons (.int .i64 xrbvbndk1_) (.cons (.int .i64 (.var 20)) .nil))) (.lit (9223372036854775807))))))))))
 (.br xrbvbndk11_
 (.need (.b2 .and (.b2 .and (.b2 .le (.lit (-9223372036854775808)) xrbvbndk16_) (.b2 .le xrbvbndk16_ (.lit (9223372036854775807)))) (.b2 .and (.b2 .and (.b2 .le (.lit (-9223372036854775808)) xrbvbndk4_) (.b2 .le xrbvbndk4_ (.lit (9223372036854775807)))) (.b2 .and (.b2 .le (.lit (-9223372036854775808)) xrbvbndk6_) (.b2 .le xrbvbndk6_ (.lit (9223372036854775807))))))
 (.ret (.bool xrbvbndk18_)))
 (.ret (.bool (.tt false)))))
 (.ret (.bool (.tt false)))))
abbrev bvc_btold : Con := ⟨33, [(.agg (.cons (.int .i64 (.var 0)) (.cons (.int .i64 (.var 1)) (.cons (.int .i64 (.var 2)) (.cons (.int .i64 (.var 3)) (.cons (.int .u32 (.var 4)) (.cons (.int .i64 (.var 5)) (.cons (.int .u32 (.var 6)) (.cons (.int .i64 (.var 7)) (.cons (.int .i64 (.var 8)) (.cons (.int .i64 (.var 9)) .nil))))))))))), (.int .i64 (.var 10)), (.agg (.cons (.int .i64 (.var 11)) (.cons (.int .i64 (.var 12)) (.cons (.int .i64 (.var 13)) (.cons (.int .i64 (.var 14)) (.cons (.int .i64 (.var 15)) (.cons (.int .i64 (.var 16)) (.cons (.bool (.bvar 0)) (.cons (.str 0) (.cons (.int .i64 (.var 17)) (.cons (.hs .no (.cons (.int .i64) (.cons (.int .i64) (.cons .str .nil))) (.opq 0)) .nil))))))))))), (.agg (.cons (.int .i64 (.var 18)) (.cons (.int .i64 (.var 19)) (.cons (.int .i64 (.var 20)) (.cons (.int .i64 (.var 21)) .nil)))))], (.b2 .and xrbvbndk7_ (.b2 .and (.b2 .and (.b2 .le (.lit (-9223372036854775808)) (.var 10)) (.b2 .le (.var 10) (.lit (9223372036854775807)))) (.b2 .and xrbvbndk9_ (.b2 .and (.b2 .and (.b2 .le (.lit (-9223372036854775808)) (.var 18)) (.b2 .le (.var 18) (.lit (9223372036854775807)))) (.b2 .and (.b2 .and (.b2 .le (.lit (-9223372036854775808)) (.var 19)) (.b2 .le (.var 19) (.lit (9223372036854775807)))) (.b2 .and (.b2 .and (.b2 .le (.lit (-9223372036854775808)) (.var 20)) (.b2 .le (.var 20) (.lit (9223372036854775807)))) (.b2 .and (.b2 .le (.lit (-9223372036854775808)) (.var 21)) (.b2 .le (.var 21) (.lit (9223372036854775807)))))))))), (.bool (.b2 .and (.b2 .eq xrbvbndk1_ (.lit (0))) (.b2 .and xrbvbndk11_ xrbvbndk18_))), ⟨22, 1, 1, 1⟩, none⟩
theorem btold_w : walk Tryz.prog 111 ⟨[bxc_bof, bvc_bsum, bvc_tot3], syG, [], [], []⟩ [] .v bvc_btold bvc_btold.n 3000 = some btold_tree := by kernel_rfl
theorem btold_h (pe pb pt pr gm gs qm qs pp pc kc sk sb sa qu fw fc f va bo rz ho : Int) (j : Bool) (l : Value) (s : ByteArray) : Hyp_ bvc_btold btold_tree (bvE [pe, pb, pt, pr, gm, gs, qm, qs, pp, pc, kc, sk, sb, sa, qu, fw, fc, f, va, bo, rz, ho] [j] [l] [s]) := by
 intro hc hty
 simp only [bvc_btold, Sy.holds, bvE, denV, denI, denB, denL, I2.den, VOp.den, List.getD_cons_zero, List.getD_cons_succ, Cst.den, syso, syse, syio, sybo, B2.ofInts, B2.denI, B2.denB, if_true, Bool.false_eq_true, if_false, Nat.div_one, Nat.mul_one, Nat.add_zero] at hc
 simp only [bvc_btold, patsTyp, patTyp, patTypL, bvE, denV, denL, List.getD_cons_zero, List.getD_cons_succ, and_true, true_and] at hty
 have hL_l : typ (.sl (.cons (.int .i64) (.cons (.int .i64) (.cons .str .nil)))) l := by first | exact hty | exact hty.1 | exact hty.2 | exact hty.1.1 | exact hty.1.2 | exact hty.2.1 | exact hty.2.2 | exact hty.2.2.1 | exact hty.2.2.2
 have hN_l := typ_len (n := 3) hL_l rfl (by omega)
 unfold btold_tree
 simp only [bvc_btold, Tree.holds, Sy.holds, bvE, denV, denI, denB, denL, I2.den, VOp.den, List.getD_cons_zero, List.getD_cons_succ, Cst.den, syso, syse, syio, sybo, bvi_sa, bvi_up, bvi_hv, bvi_q, bvi_tme, bvi_poe, bvi_gdw, bvi_boe, bvi_lp, bvi_sm, B2.ofInts, B2.denI, B2.denB, if_true, Bool.false_eq_true, if_false, Nat.div_one, Nat.mul_one, Nat.add_zero]
 obtain ⟨E, hE⟩ : ∃ x, boE (poE sk sb sa qu fw fc s f (Sy.rows l)) rz (tmE pe pb pt pr gm gs qm qs pp pc kc) = x := ⟨_, rfl⟩
 have hpi := fun h0 : E = 0 => parts_in (hE.trans h0)
 simp only [hE]
 have hlp := lp_rng sk
 by_cases hE0 : E = 0
 all_goals
  first
  | simp only [gw_y hE0]
  | simp only [gw_n hE0]
  first
  | (have hx : E = 0 := by omega
     obtain ⟨hp, qp, z0, z1, z2, z3⟩ := hpi hx
     obtain ⟨a1, a2, a3, a4, a5, a6, a7, a8, f1, f2, a11, a12, a13, a14⟩ := id hp
     obtain ⟨b1, b2, b3, b4, b5, b6, b7, b8⟩ := id qp)
  | skip
  refine ⟨?_, fun h0 => ?_⟩
  rotate_left
  refine ⟨fun h1 => ?_, fun h1 => ?_⟩
  refine ⟨?_, fun h2 => ?_⟩
  rotate_left
  refine ⟨fun h3 => ?_, fun h3 => ?_⟩
  refine ⟨?_, fun h4 => ?_⟩
  rotate_left
  rotate_left
  rotate_left
  rotate_left
 all_goals first
 | exact True.intro
 | (show @Eq Value _ _
    first
    | rfl
    | (refine congrArg Value.bool (Bool.eq_iff_iff.2 ?_)
       simp only [beq_iff_eq, Bool.and_eq_true, decide_eq_true_eq, Bool.false_eq_true, false_iff]
       omega)
    | skip
    done)
 | (skip
    first
    | exact True.intro
    | omega
    | exact ⟨hc.1, hc.2.1, hc.2.2.1, by omega⟩
    | skip
    done)
theorem bvg_btold : bvc_btold.Good Tryz.prog syG (bvE [] [] [] []) := good_of_walk (Γ := ⟨[bxc_bof, bvc_bsum, bvc_tot3], syG, [], [], []⟩) (ρ := bvE [] [] [] []) sym btold_w rfl (fun _ _ _ _ => (ok_cons (Con.Good.env (Con.Good.up bxg_bof bvup rfl) _ _ _ _) (ok_cons (Con.Good.env bvg_bsum _ _ _ _) (ok_cons (Con.Good.env bvg_tot3 _ _ _ _) ok_nil)))) btold_h
end Go.Proofs.YtgondiedehjkhaaGreatDoor
