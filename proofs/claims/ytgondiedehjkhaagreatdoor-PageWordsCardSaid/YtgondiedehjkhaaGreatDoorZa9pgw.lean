/-
 Layer 19 by the second engine: what must come, the law.
-/
import Derived.Test.YtgondiedehjkhaaGreatDoorSycpgw
import Derived.Test.YtgondiedehjkhaaGreatDoorZypgw
import Derived.Test.YtgondiedehjkhaaGreatDoorE00pgw
namespace Go.Proofs.YtgondiedehjkhaaGreatDoor
open Go.RowKit Go.Extern.Stop Go.Stop Go.Extern Go.Proofs.YtgondiedehjkhaaGreatDoor.Sy
set_option linter.unusedVariables false
set_option linter.unusedSimpArgs false
abbrev xza9pgwk0_ : Tm := (.tup (.cons (.int .i64 (.lit 3)) (.cons (.int .i64 (.lit 5)) (.cons (.int .i64 (.lit (-7))) (.cons (.int .i64 (.lit 9)) (.cons (.int .u32 (.lit 2147483648)) (.cons (.int .i64 (.lit 31)) (.cons (.int .u32 (.lit 2147483648)) (.cons (.int .i64 (.lit 31)) (.cons (.int .i64 (.lit 11)) (.cons (.int .i64 (.lit 100)) .nil)))))))))))
abbrev xza9pgwk16_ : Tm := (.iapp 26 (.cons xza9pgwk0_ (.cons (.int .u64 (.lit 6)) (.cons (.int .i64 (.lit 1)) .nil))))
abbrev xza9pgwk6_ : Tm := (.iapp 26 (.cons xza9pgwk0_ (.cons (.int .u64 (.lit 6)) (.cons (.int .i64 (.lit 2)) .nil))))
abbrev xza9pgwk15_ : Tm := (.iapp 26 (.cons xza9pgwk0_ (.cons (.int .u64 (.lit 6)) (.cons (.int .i64 (.lit 3)) .nil))))
abbrev xza9pgwk14_ : Tm := (.iapp 26 (.cons xza9pgwk0_ (.cons (.int .u64 (.lit 6)) (.cons (.int .i64 (.lit 4)) .nil))))
abbrev xza9pgwk13_ : Tm := (.iapp 26 (.cons xza9pgwk0_ (.cons (.int .u64 (.lit 6)) (.cons (.int .i64 (.lit 5)) .nil))))
abbrev xza9pgwk12_ : Tm := (.iapp 26 (.cons xza9pgwk0_ (.cons (.int .u64 (.lit 6)) (.cons (.int .i64 (.lit 6)) .nil))))
abbrev xza9pgwk11_ : Tm := (.iapp 26 (.cons xza9pgwk0_ (.cons (.int .u64 (.lit 6)) (.cons (.int .i64 (.lit 7)) .nil))))
abbrev xza9pgwk10_ : Tm := (.iapp 26 (.cons xza9pgwk0_ (.cons (.int .u64 (.lit 6)) (.cons (.int .i64 (.lit 8)) .nil))))
abbrev xza9pgwk9_ : Tm := (.iapp 26 (.cons xza9pgwk0_ (.cons (.int .u64 (.lit 6)) (.cons (.int .i64 (.lit 9)) .nil))))
abbrev xza9pgwk8_ : Tm := (.iapp 26 (.cons xza9pgwk0_ (.cons (.int .u64 (.lit 6)) (.cons (.int .i64 (.lit 10)) .nil))))
abbrev xza9pgwk1_ : Tm := (.tup (.cons (.int .i64 (wr_ xza9pgwk16_)) (.cons (.int .i64 (wr_ xza9pgwk6_)) (.cons (.int .i64 (wr_ xza9pgwk15_)) (.cons (.int .i64 (wr_ xza9pgwk14_)) (.cons (.int .u32 (.wrap .u32 (wr_ xza9pgwk13_))) (.cons (.int .i64 (wr_ xza9pgwk12_)) (.cons (.int .u32 (.wrap .u32 (wr_ xza9pgwk11_))) (.cons (.int .i64 (wr_ xza9pgwk10_)) (.cons (.int .i64 (wr_ xza9pgwk9_)) (.cons (.int .i64 (wr_ xza9pgwk8_)) .nil)))))))))))
abbrev xza9pgwk2_ : Tm := (.agg (.cons (.int .u32 (.lit 2147483648)) (.cons (.int .i64 (.lit 31)) (.cons (.int .i64 (.lit 0)) (.cons (.int .i64 (.lit 0)) (.cons (.int .i64 (.lit 0)) (.cons (.int .i64 (.lit 0)) (.cons (.int .i64 (.lit 5)) (.cons (.bool (.tt true)) (.cons (.int .i64 (.lit 4)) (.cons (.int .i64 (.lit 2)) (.cons (.int .i64 (.lit 1)) (.cons (.int .i64 (.lit 0)) (.cons (.int .i64 (.lit 0)) .nil))))))))))))))
abbrev xza9pgwk3_ : Tm := (.iapp 26 (.cons xza9pgwk0_ (.cons (.int .u64 (.lit 6)) (.cons (.int .i64 (.lit 0)) .nil))))
abbrev xza9pgwk4_ : Tm := (.agg (.cons (.int .i64 (.lit 0)) (.cons (.int .i64 (.lit 0)) (.cons (.int .i64 (.lit 0)) (.cons (.int .i64 (.lit 0)) (.cons (.int .u32 (.lit 0)) (.cons (.int .i64 (.lit 0)) (.cons (.int .u32 (.lit 0)) (.cons (.int .i64 (.lit 0)) (.cons (.int .i64 (.lit 0)) (.cons (.int .i64 (.lit 0)) .nil)))))))))))
abbrev xza9pgwk5_ : Tm := (.agg (.cons (.int .u32 (.lit 2147483648)) (.cons (.int .i64 (.lit 31)) (.cons (.int .i64 (.lit 0)) (.cons (.int .i64 (.lit 0)) (.cons (.int .i64 (.lit 0)) (.cons (.int .i64 (.lit 0)) (.cons (.int .i64 (.lit 5)) (.cons (.bool (.tt false)) (.cons (.int .i64 (.lit 0)) (.cons (.int .i64 (.lit 0)) (.cons (.int .i64 (.lit 0)) (.cons (.int .i64 (.lit 0)) (.cons (.int .i64 (.lit 0)) .nil))))))))))))))
abbrev xza9pgwk7_ : Tm := (.agg (.cons (.int .i64 (.lit 3)) (.cons (.int .i64 (.lit 5)) (.cons (.int .i64 (.lit (-7))) (.cons (.int .i64 (.lit 9)) (.cons (.int .u32 (.lit 2147483648)) (.cons (.int .i64 (.lit 31)) (.cons (.int .u32 (.lit 2147483648)) (.cons (.int .i64 (.lit 31)) (.cons (.int .i64 (.lit 11)) (.cons (.int .i64 (.lit 100)) .nil)))))))))))
abbrev xza9pgwk17_ : Tm := (.iapp 26 (.cons xza9pgwk0_ (.cons (.int .u64 (.lit 6)) (.cons (.int .i64 (.lit 14)) .nil))))
abbrev xza9pgwk18_ : Tm := (.iapp 26 (.cons xza9pgwk0_ (.cons (.int .u64 (.lit 6)) (.cons (.int .i64 (.lit 13)) .nil))))
abbrev xza9pgwk19_ : Tm := (.iapp 26 (.cons xza9pgwk0_ (.cons (.int .u64 (.lit 6)) (.cons (.int .i64 (.lit 12)) .nil))))
abbrev xza9pgwk20_ : Tm := (.iapp 26 (.cons xza9pgwk0_ (.cons (.int .u64 (.lit 6)) (.cons (.int .i64 (.lit 11)) .nil))))
abbrev xza9pgwk21_ : Tm := (.agg (.cons (.int .u32 (.lit 2147483648)) (.cons (.int .i64 (.lit 31)) .nil)))
abbrev xza9pgwk22_ : Tm := (.iapp 26 (.cons xza9pgwk0_ (.cons (.int .u64 (.lit 6)) (.cons (.int .i64 (.lit 15)) .nil))))
abbrev xza9pgwk23_ : Tm := (.agg (.cons (.int .i64 (.lit 1)) (.cons (.int .i64 (.lit 3)) .nil)))
abbrev xza9pgwk24_ : Tm := (.iapp 19 (.cons (.int .i64 (.lit 0)) .nil))
theorem q_pm : pgB (Sy.rows (Value.tuple #[.int .i64 3, .int .i64 5, .int .i64 (-7), .int .i64 9, .int .u32 2147483648, .int .i64 31, .int .u32 2147483648, .int .i64 31, .int .i64 11, .int .i64 100])) = true := by decide
theorem ql0 : IntKind.wrap .i64 3 = 3 := by decide
theorem ql1 : IntKind.wrap .i64 5 = 5 := by decide
theorem ql2 : IntKind.wrap .i64 9 = 9 := by decide
theorem ql3 : IntKind.wrap .i64 2147483648 = 2147483648 := by decide
theorem ql4 : IntKind.wrap .u32 2147483648 = 2147483648 := by decide
theorem ql5 : IntKind.wrap .i64 31 = 31 := by decide
theorem ql6 : IntKind.wrap .i64 11 = 11 := by decide
theorem ql7 : IntKind.wrap .i64 100 = 100 := by decide
theorem ql8 : IntKind.wrap .i64 18446744073709551609 = (-7) := by decide
theorem ql9 : IntKind.wrap .i64 0 = 0 := by decide
theorem q_u : u6 (-7) = 18446744073709551609 := by decide
theorem q_l2 : wdK (Sy.rows (Value.tuple #[.int .i64 3, .int .i64 5, .int .i64 (-7), .int .i64 9, .int .u32 2147483648, .int .i64 31, .int .u32 2147483648, .int .i64 31, .int .i64 11, .int .i64 100])) 6 (Int.toNat 2) = 5 := rfl
theorem q_sz0 : szE 0 = 0 := by decide
theorem q_sz2 : szE 2 = 2 := by decide
theorem q_fe : feE 2147483648 31 = 0 := by decide
noncomputable def za9I : Nat → List Value → Int
 | i, l => zyI i l
noncomputable def za9B : Nat → List Value → Bool
 | i, l => zyB i l
noncomputable def za9V : Nat → List Value → Value
 | i, l => zyV i l
noncomputable abbrev za9E (iv : List Int) (bv : List Bool) (vv : List Value) (sv : List ByteArray) : Env := { iv := iv, bv := bv, vv := vv, sv := sv, fi := za9I, fb := za9B, fv := za9V, et := 111 }
set_option maxHeartbeats 8000000 in
theorem za9up : Agree 31 6 13 (zyE [] [] [] []) (za9E [] [] [] []) := ⟨rfl, (by
   intro f hf
   funext l
   show za9I f l = zyI f l
   unfold za9I
   split <;> first | rfl | omega), (by
   intro f hf
   funext l
   show za9B f l = zyB f l
   unfold za9B
   split <;> first | rfl | omega), (by
   intro f hf
   funext l
   show za9V f l = zyV f l
   unfold za9V
   split <;> first | rfl | omega)⟩
theorem za9i_sz (k1 : IntKind) (a : Int) : za9I 19 [.int k1 a] = szE a := rfl
theorem za9i_sa (k1 : IntKind) (a : Int) : za9I 20 [.int k1 a] = satE a := rfl
theorem za9i_fe (k1 : IntKind) (a : Int) (k2 : IntKind) (s : Int) : za9I 23 [.int k1 a, .int k2 s] = feE a s := rfl
theorem za9i_ws (l : Value) : za9I 25 [l] = wsI (rows l) := rfl
theorem za9i_lw (l : Value) (k1 : IntKind) (q : Int) (k2 : IntKind) (k : Int) : za9I 26 [l, .int k1 q, .int k2 k] = wdK (rows l) q k.toNat := rfl
theorem za9b_pm (l : Value) : za9B 5 [l] = pgB (rows l) := rfl
def some_tree : Tree :=
 (.ret xza9pgwk7_)
abbrev za9c_some : Con := ⟨50, [], (.tt true), xza9pgwk7_, ⟨0, 0, 0, 0⟩, none⟩
theorem some_w : walk Tryz.prog 111 ⟨[], syG, [], [], []⟩ [] .v za9c_some za9c_some.n 3000 = some some_tree := by kernel_rfl
theorem some_h : Hyp_ za9c_some some_tree (za9E [] [] [] []) := by
 intro hc hty
 simp only [za9c_some, Sy.holds, za9E, denV, denI, denB, denL, I2.den, VOp.den, List.getD_cons_zero, List.getD_cons_succ, Cst.den, syso, syse, syio, sybo, B2.ofInts, B2.denI, B2.denB, if_true, Bool.false_eq_true, if_false, Nat.div_one, Nat.mul_one, Nat.add_zero] at hc
 simp only [za9c_some, patsTyp, patTyp, patTypL, za9E, denV, denL, List.getD_cons_zero, List.getD_cons_succ, and_true, true_and] at hty
 unfold some_tree
 simp only [za9c_some, Tree.holds, Sy.holds, za9E, denV, denI, denB, denL, I2.den, VOp.den, List.getD_cons_zero, List.getD_cons_succ, Cst.den, syso, syse, syio, sybo, B2.ofInts, B2.denI, B2.denB, if_true, Bool.false_eq_true, if_false, Nat.div_one, Nat.mul_one, Nat.add_zero]
 all_goals first | omega | rfl | (simp only [Value.tuple.injEq, Value.agg.injEq, Value.int.injEq, Value.bool.injEq, Array.mk.injEq, List.cons.injEq, true_and, and_true]; omega) | (refine congrArg Value.bool (Bool.eq_iff_iff.2 ?_); simp only [beq_iff_eq, decide_eq_true_eq, true_iff, false_iff, Bool.false_eq_true, Bool.not_eq_true', Bool.and_eq_true, Bool.or_eq_true, decide_eq_false_iff_not]; omega)
theorem za9g_some : za9c_some.Good Tryz.prog syG (za9E [] [] [] []) := good_of_walk (Γ := ⟨[], syG, [], [], []⟩) (ρ := za9E [] [] [] []) sym some_w rfl (fun _ _ _ _ => ok_nil) some_h
def parts_tree : Tree :=
 (.ret (.agg (.cons z0_ (.cons z1_ .nil))))
abbrev za9c_parts : Con := ⟨157, [(.agg (.cons z0_ (.cons z1_ .nil)))], (.tt true), (.agg (.cons z0_ (.cons z1_ .nil))), ⟨2, 0, 0, 0⟩, none⟩
theorem parts_w : walk Tryz.prog 111 ⟨[], syG, [], [], []⟩ [] .v za9c_parts za9c_parts.n 3000 = some parts_tree := by kernel_rfl
theorem parts_h (a b : Int) : Hyp_ za9c_parts parts_tree (za9E [a, b] [] [] []) := by
 intro hc hty
 simp only [za9c_parts, Sy.holds, za9E, denV, denI, denB, denL, I2.den, VOp.den, List.getD_cons_zero, List.getD_cons_succ, Cst.den, syso, syse, syio, sybo, B2.ofInts, B2.denI, B2.denB, if_true, Bool.false_eq_true, if_false, Nat.div_one, Nat.mul_one, Nat.add_zero] at hc
 simp only [za9c_parts, patsTyp, patTyp, patTypL, za9E, denV, denL, List.getD_cons_zero, List.getD_cons_succ, and_true, true_and] at hty
 unfold parts_tree
 simp only [za9c_parts, Tree.holds, Sy.holds, za9E, denV, denI, denB, denL, I2.den, VOp.den, List.getD_cons_zero, List.getD_cons_succ, Cst.den, syso, syse, syio, sybo, B2.ofInts, B2.denI, B2.denB, if_true, Bool.false_eq_true, if_false, Nat.div_one, Nat.mul_one, Nat.add_zero]
 all_goals first | omega | rfl | (simp only [Value.tuple.injEq, Value.agg.injEq, Value.int.injEq, Value.bool.injEq, Array.mk.injEq, List.cons.injEq, true_and, and_true]; omega) | (refine congrArg Value.bool (Bool.eq_iff_iff.2 ?_); simp only [beq_iff_eq, decide_eq_true_eq, true_iff, false_iff, Bool.false_eq_true, Bool.not_eq_true', Bool.and_eq_true, Bool.or_eq_true, decide_eq_false_iff_not]; omega)
theorem za9g_parts : za9c_parts.Good Tryz.prog syG (za9E [] [] [] []) := good_of_walk (Γ := ⟨[], syG, [], [], []⟩) (ρ := za9E [] [] [] []) sym parts_w rfl (fun _ _ _ _ => ok_nil) parts_h
def sck_tree : Tree :=
 (.ret (.cst .nilI))
abbrev za9c_sck : Con := ⟨129, [(.agg (.cons (.int .i64 (.lit 0)) (.cons (.int .i64 (.lit 0)) .nil))), (.int .i64 (.lit 0))], (.tt true), (.err (.lit 0)), ⟨0, 0, 0, 0⟩, none⟩
theorem sck_w : walk Tryz.prog 111 ⟨[za9c_parts], syG, [], [], []⟩ [] .v za9c_sck za9c_sck.n 3000 = some sck_tree := by kernel_rfl
theorem sck_h : Hyp_ za9c_sck sck_tree (za9E [] [] [] []) := by
 intro hc hty
 simp only [za9c_sck, Sy.holds, za9E, denV, denI, denB, denL, I2.den, VOp.den, List.getD_cons_zero, List.getD_cons_succ, Cst.den, syso, syse, syio, sybo, B2.ofInts, B2.denI, B2.denB, if_true, Bool.false_eq_true, if_false, Nat.div_one, Nat.mul_one, Nat.add_zero] at hc
 simp only [za9c_sck, patsTyp, patTyp, patTypL, za9E, denV, denL, List.getD_cons_zero, List.getD_cons_succ, and_true, true_and] at hty
 unfold sck_tree
 simp only [za9c_sck, Tree.holds, Sy.holds, za9E, denV, denI, denB, denL, I2.den, VOp.den, List.getD_cons_zero, List.getD_cons_succ, Cst.den, syso, syse, syio, sybo, B2.ofInts, B2.denI, B2.denB, if_true, Bool.false_eq_true, if_false, Nat.div_one, Nat.mul_one, Nat.add_zero]
 have s0 := q_sz0
 have s2 := q_sz2
 have f0 := q_fe
 first
 | (exfalso; omega)
 | rfl
 | skip
theorem za9g_sck : za9c_sck.Good Tryz.prog syG (za9E [] [] [] []) := good_of_walk (Γ := ⟨[za9c_parts], syG, [], [], []⟩) (ρ := za9E [] [] [] []) sym sck_w rfl (fun _ _ _ _ => (ok_cons (Con.Good.env za9g_parts _ _ _ _) ok_nil)) sck_h
def ckr_tree : Tree :=
 (.br (.not (eq_ (.iapp 23 (.cons (.int .u32 (.lit 2147483648)) (.cons (.int .i64 (.lit 31)) .nil))) (.lit 0)))
 (.ret (.iface 111 (.int .i64 (.lit 1))))
 (.ret (.cst .nilI)))
abbrev za9c_ckr : Con := ⟨79, [(.agg (.cons (.int .u32 (.lit 2147483648)) (.cons (.int .i64 (.lit 31)) (.cons (.int .i64 (.lit 0)) (.cons (.int .i64 (.lit 0)) (.cons (.int .i64 (.lit 0)) (.cons (.int .i64 (.lit 0)) (.cons (.int .i64 (.lit 5)) .nil))))))))], (.tt true), (.err (.lit 0)), ⟨0, 0, 0, 0⟩, none⟩
theorem ckr_w : walk Tryz.prog 111 ⟨[zuc_rcheck, za9c_sck], syG, [], [], []⟩ [] .v za9c_ckr za9c_ckr.n 3000 = some ckr_tree := by kernel_rfl
theorem ckr_h : Hyp_ za9c_ckr ckr_tree (za9E [] [] [] []) := by
 intro hc hty
 simp only [za9c_ckr, Sy.holds, za9E, denV, denI, denB, denL, I2.den, VOp.den, List.getD_cons_zero, List.getD_cons_succ, Cst.den, syso, syse, syio, sybo, B2.ofInts, B2.denI, B2.denB, if_true, Bool.false_eq_true, if_false, Nat.div_one, Nat.mul_one, Nat.add_zero] at hc
 simp only [za9c_ckr, patsTyp, patTyp, patTypL, za9E, denV, denL, List.getD_cons_zero, List.getD_cons_succ, and_true, true_and] at hty
 unfold ckr_tree
 simp only [za9c_ckr, Tree.holds, Sy.holds, za9E, denV, denI, denB, denL, I2.den, VOp.den, List.getD_cons_zero, List.getD_cons_succ, Cst.den, syso, syse, syio, sybo, za9i_fe, B2.ofInts, B2.denI, B2.denB, if_true, Bool.false_eq_true, if_false, Nat.div_one, Nat.mul_one, Nat.add_zero]
 have s0 := q_sz0
 have s2 := q_sz2
 have f0 := q_fe
 refine ⟨fun h0 => ?_, fun h0 => ?_⟩
 ·
  first
  | (exfalso; omega)
  | rfl
  | skip
 ·
  first
  | (exfalso; omega)
  | rfl
  | skip
theorem za9g_ckr : za9c_ckr.Good Tryz.prog syG (za9E [] [] [] []) := good_of_walk (Γ := ⟨[zuc_rcheck, za9c_sck], syG, [], [], []⟩) (ρ := za9E [] [] [] []) sym ckr_w rfl (fun _ _ _ _ => (ok_cons (Con.Good.env (Con.Good.up (Con.Good.up zug_rcheck zyup rfl) za9up rfl) _ _ _ _) (ok_cons (Con.Good.env za9g_sck _ _ _ _) ok_nil))) ckr_h
def hck0_tree : Tree :=
 (.br (le_ (.lit 4611686018427387904) xza9pgwk24_)
 (.ret (.iface 111 (.int .i64 (.lit 1))))
 (.br (lt_ (.lit 0) xza9pgwk24_)
 (.ret (.iface 111 (.int .i64 (.lit 1))))
 (.br (lt_ (.lit 1048576) xza9pgwk24_)
 (.ret (.iface 111 (.int .i64 (.lit 1))))
 (.ret (.cst .nilI)))))
abbrev za9c_hck0 : Con := ⟨34, [xza9pgwk5_], (.tt true), (.err (.lit 0)), ⟨0, 0, 0, 0⟩, none⟩
theorem hck0_w : walk Tryz.prog 111 ⟨[za9c_ckr, zuc_size], syG, [], [], []⟩ [] .v za9c_hck0 za9c_hck0.n 3000 = some hck0_tree := by kernel_rfl
theorem hck0_h : Hyp_ za9c_hck0 hck0_tree (za9E [] [] [] []) := by
 intro hc hty
 simp only [za9c_hck0, Sy.holds, za9E, denV, denI, denB, denL, I2.den, VOp.den, List.getD_cons_zero, List.getD_cons_succ, Cst.den, syso, syse, syio, sybo, B2.ofInts, B2.denI, B2.denB, if_true, Bool.false_eq_true, if_false, Nat.div_one, Nat.mul_one, Nat.add_zero] at hc
 simp only [za9c_hck0, patsTyp, patTyp, patTypL, za9E, denV, denL, List.getD_cons_zero, List.getD_cons_succ, and_true, true_and] at hty
 unfold hck0_tree
 simp only [za9c_hck0, Tree.holds, Sy.holds, za9E, denV, denI, denB, denL, I2.den, VOp.den, List.getD_cons_zero, List.getD_cons_succ, Cst.den, syso, syse, syio, sybo, za9i_sz, B2.ofInts, B2.denI, B2.denB, if_true, Bool.false_eq_true, if_false, Nat.div_one, Nat.mul_one, Nat.add_zero]
 have s0 := q_sz0
 have s2 := q_sz2
 have f0 := q_fe
 refine ⟨fun h0 => ?_, fun h0 => ?_⟩
 ·
  first
  | (exfalso; omega)
  | rfl
  | skip
 refine ⟨fun h1 => ?_, fun h1 => ?_⟩
 ·
  first
  | (exfalso; omega)
  | rfl
  | skip
 refine ⟨fun h2 => ?_, fun h2 => ?_⟩
 ·
  first
  | (exfalso; omega)
  | rfl
  | skip
 ·
  first
  | (exfalso; omega)
  | rfl
  | skip
theorem za9g_hck0 : za9c_hck0.Good Tryz.prog syG (za9E [] [] [] []) := good_of_walk (Γ := ⟨[za9c_ckr, zuc_size], syG, [], [], []⟩) (ρ := za9E [] [] [] []) sym hck0_w rfl (fun _ _ _ _ => (ok_cons (Con.Good.env za9g_ckr _ _ _ _) (ok_cons (Con.Good.env (Con.Good.up (Con.Good.up zug_size zyup rfl) za9up rfl) _ _ _ _) ok_nil))) hck0_h
def hck1_tree : Tree :=
 (.br (le_ (.lit 4611686018427387904) (.iapp 19 (.cons (.int .i64 (.lit 2)) .nil)))
 (.ret (.iface 111 (.int .i64 (.lit 1))))
 (.br (lt_ (.lit 0) xza9pgwk24_)
 (.ret (.iface 111 (.int .i64 (.lit 1))))
 (.br (lt_ (.lit 1048576) xza9pgwk24_)
 (.ret (.iface 111 (.int .i64 (.lit 1))))
 (.ret (.cst .nilI)))))
abbrev za9c_hck1 : Con := ⟨34, [xza9pgwk2_], (.tt true), (.err (.lit 0)), ⟨0, 0, 0, 0⟩, none⟩
theorem hck1_w : walk Tryz.prog 111 ⟨[za9c_ckr, zuc_size], syG, [], [], []⟩ [] .v za9c_hck1 za9c_hck1.n 3000 = some hck1_tree := by kernel_rfl
theorem hck1_h : Hyp_ za9c_hck1 hck1_tree (za9E [] [] [] []) := by
 intro hc hty
 simp only [za9c_hck1, Sy.holds, za9E, denV, denI, denB, denL, I2.den, VOp.den, List.getD_cons_zero, List.getD_cons_succ, Cst.den, syso, syse, syio, sybo, B2.ofInts, B2.denI, B2.denB, if_true, Bool.false_eq_true, if_false, Nat.div_one, Nat.mul_one, Nat.add_zero] at hc
 simp only [za9c_hck1, patsTyp, patTyp, patTypL, za9E, denV, denL, List.getD_cons_zero, List.getD_cons_succ, and_true, true_and] at hty
 unfold hck1_tree
 simp only [za9c_hck1, Tree.holds, Sy.holds, za9E, denV, denI, denB, denL, I2.den, VOp.den, List.getD_cons_zero, List.getD_cons_succ, Cst.den, syso, syse, syio, sybo, za9i_sz, B2.ofInts, B2.denI, B2.denB, if_true, Bool.false_eq_true, if_false, Nat.div_one, Nat.mul_one, Nat.add_zero]
 have s0 := q_sz0
 have s2 := q_sz2
 have f0 := q_fe
 refine ⟨fun h0 => ?_, fun h0 => ?_⟩
 ·
  first
  | (exfalso; omega)
  | rfl
  | skip
 refine ⟨fun h1 => ?_, fun h1 => ?_⟩
 ·
  first
  | (exfalso; omega)
  | rfl
  | skip
 refine ⟨fun h2 => ?_, fun h2 => ?_⟩
 ·
  first
  | (exfalso; omega)
  | rfl
  | skip
 ·
  first
  | (exfalso; omega)
  | rfl
  | skip
theorem za9g_hck1 : za9c_hck1.Good Tryz.prog syG (za9E [] [] [] []) := good_of_walk (Γ := ⟨[za9c_ckr, zuc_size], syG, [], [], []⟩) (ρ := za9E [] [] [] []) sym hck1_w rfl (fun _ _ _ _ => (ok_cons (Con.Good.env za9g_ckr _ _ _ _) (ok_cons (Con.Good.env (Con.Good.up (Con.Good.up zug_size zyup rfl) za9up rfl) _ _ _ _) ok_nil))) hck1_h
def spck_tree : Tree :=
 (.ret (.cst .nilI))
abbrev za9c_spck : Con := ⟨91, [xza9pgwk23_], (.tt true), (.err (.lit 0)), ⟨0, 0, 0, 0⟩, none⟩
theorem spck_w : walk Tryz.prog 111 ⟨[], syG, [], [], []⟩ [] .v za9c_spck za9c_spck.n 3000 = some spck_tree := by kernel_rfl
theorem spck_h : Hyp_ za9c_spck spck_tree (za9E [] [] [] []) := by
 intro hc hty
 simp only [za9c_spck, Sy.holds, za9E, denV, denI, denB, denL, I2.den, VOp.den, List.getD_cons_zero, List.getD_cons_succ, Cst.den, syso, syse, syio, sybo, B2.ofInts, B2.denI, B2.denB, if_true, Bool.false_eq_true, if_false, Nat.div_one, Nat.mul_one, Nat.add_zero] at hc
 simp only [za9c_spck, patsTyp, patTyp, patTypL, za9E, denV, denL, List.getD_cons_zero, List.getD_cons_succ, and_true, true_and] at hty
 unfold spck_tree
 simp only [za9c_spck, Tree.holds, Sy.holds, za9E, denV, denI, denB, denL, I2.den, VOp.den, List.getD_cons_zero, List.getD_cons_succ, Cst.den, syso, syse, syio, sybo, B2.ofInts, B2.denI, B2.denB, if_true, Bool.false_eq_true, if_false, Nat.div_one, Nat.mul_one, Nat.add_zero]
 have s0 := q_sz0
 have s2 := q_sz2
 have f0 := q_fe
 first
 | (exfalso; omega)
 | rfl
 | skip
theorem za9g_spck : za9c_spck.Good Tryz.prog syG (za9E [] [] [] []) := good_of_walk (Γ := ⟨[], syG, [], [], []⟩) (ρ := za9E [] [] [] []) sym spck_w rfl (fun _ _ _ _ => ok_nil) spck_h
def mid_tree : Tree :=
 (.ret (.tup (.cons (.int .i64 (.lit 2)) (.cons (.int .i64 (.iapp 20 (.cons (.int .i64 (.lit 1)) .nil))) (.cons (.cst .nilI) .nil)))))
abbrev za9c_mid : Con := ⟨135, [xza9pgwk23_], (.tt true), (.tup (.cons (.int .i64 (.lit 2)) (.cons (.int .i64 (.lit 1)) (.cons (.err (.lit 0)) .nil)))), ⟨0, 0, 0, 0⟩, none⟩
theorem mid_w : walk Tryz.prog 111 ⟨[za9c_spck, zuc_subsat], syG, [], [], []⟩ [] .v za9c_mid za9c_mid.n 3000 = some mid_tree := by kernel_rfl
theorem mid_h : Hyp_ za9c_mid mid_tree (za9E [] [] [] []) := by
 intro hc hty
 simp only [za9c_mid, Sy.holds, za9E, denV, denI, denB, denL, I2.den, VOp.den, List.getD_cons_zero, List.getD_cons_succ, Cst.den, syso, syse, syio, sybo, B2.ofInts, B2.denI, B2.denB, if_true, Bool.false_eq_true, if_false, Nat.div_one, Nat.mul_one, Nat.add_zero] at hc
 simp only [za9c_mid, patsTyp, patTyp, patTypL, za9E, denV, denL, List.getD_cons_zero, List.getD_cons_succ, and_true, true_and] at hty
 unfold mid_tree
 simp only [za9c_mid, Tree.holds, Sy.holds, za9E, denV, denI, denB, denL, I2.den, VOp.den, List.getD_cons_zero, List.getD_cons_succ, Cst.den, syso, syse, syio, sybo, za9i_sa, B2.ofInts, B2.denI, B2.denB, if_true, Bool.false_eq_true, if_false, Nat.div_one, Nat.mul_one, Nat.add_zero]
 have s0 := q_sz0
 have s2 := q_sz2
 have f0 := q_fe
 first
 | (exfalso; omega)
 | rfl
 | skip
theorem za9g_mid : za9c_mid.Good Tryz.prog syG (za9E [] [] [] []) := good_of_walk (Γ := ⟨[za9c_spck, zuc_subsat], syG, [], [], []⟩) (ρ := za9E [] [] [] []) sym mid_w rfl (fun _ _ _ _ => (ok_cons (Con.Good.env za9g_spck _ _ _ _) (ok_cons (Con.Good.env (Con.Good.up (Con.Good.up zug_subsat zyup rfl) za9up rfl) _ _ _ _) ok_nil))) mid_h
def set_tree : Tree :=
 (.ret (.tup (.cons xza9pgwk2_ (.cons (.cst .nilI) .nil))))
abbrev za9c_set : Con := ⟨92, [xza9pgwk5_, (.int .i64 (.lit 4)), xza9pgwk23_], (.tt true), (.tup (.cons xza9pgwk2_ (.cons (.err (.lit 0)) .nil))), ⟨0, 0, 0, 0⟩, none⟩
theorem set_w : walk Tryz.prog 111 ⟨[za9c_mid], syG, [], [], []⟩ [] .v za9c_set za9c_set.n 3000 = some set_tree := by kernel_rfl
theorem set_h : Hyp_ za9c_set set_tree (za9E [] [] [] []) := by
 intro hc hty
 simp only [za9c_set, Sy.holds, za9E, denV, denI, denB, denL, I2.den, VOp.den, List.getD_cons_zero, List.getD_cons_succ, Cst.den, syso, syse, syio, sybo, B2.ofInts, B2.denI, B2.denB, if_true, Bool.false_eq_true, if_false, Nat.div_one, Nat.mul_one, Nat.add_zero] at hc
 simp only [za9c_set, patsTyp, patTyp, patTypL, za9E, denV, denL, List.getD_cons_zero, List.getD_cons_succ, and_true, true_and] at hty
 unfold set_tree
 simp only [za9c_set, Tree.holds, Sy.holds, za9E, denV, denI, denB, denL, I2.den, VOp.den, List.getD_cons_zero, List.getD_cons_succ, Cst.den, syso, syse, syio, sybo, B2.ofInts, B2.denI, B2.denB, if_true, Bool.false_eq_true, if_false, Nat.div_one, Nat.mul_one, Nat.add_zero]
 have s0 := q_sz0
 have s2 := q_sz2
 have f0 := q_fe
 first
 | (exfalso; omega)
 | rfl
 | skip
theorem za9g_set : za9c_set.Good Tryz.prog syG (za9E [] [] [] []) := good_of_walk (Γ := ⟨[za9c_mid], syG, [], [], []⟩) (ρ := za9E [] [] [] []) sym set_w rfl (fun _ _ _ _ => (ok_cons (Con.Good.env za9g_mid _ _ _ _) ok_nil)) set_h
def sync_tree : Tree :=
 (.ret (.tup (.cons xza9pgwk2_ (.cons (.err (.lit 0)) .nil))))
abbrev za9c_sync : Con := ⟨51, [xza9pgwk5_, (.int .i64 (.lit 4)), xza9pgwk23_], (.tt true), (.tup (.cons xza9pgwk2_ (.cons (.err (.lit 0)) .nil))), ⟨0, 0, 0, 0⟩, none⟩
theorem sync_w : walk Tryz.prog 111 ⟨[za9c_hck0, za9c_spck, za9c_set], syG, [], [], []⟩ [] .v za9c_sync za9c_sync.n 3000 = some sync_tree := by kernel_rfl
theorem sync_h : Hyp_ za9c_sync sync_tree (za9E [] [] [] []) := by
 intro hc hty
 simp only [za9c_sync, Sy.holds, za9E, denV, denI, denB, denL, I2.den, VOp.den, List.getD_cons_zero, List.getD_cons_succ, Cst.den, syso, syse, syio, sybo, B2.ofInts, B2.denI, B2.denB, if_true, Bool.false_eq_true, if_false, Nat.div_one, Nat.mul_one, Nat.add_zero] at hc
 simp only [za9c_sync, patsTyp, patTyp, patTypL, za9E, denV, denL, List.getD_cons_zero, List.getD_cons_succ, and_true, true_and] at hty
 unfold sync_tree
 simp only [za9c_sync, Tree.holds, Sy.holds, za9E, denV, denI, denB, denL, I2.den, VOp.den, List.getD_cons_zero, List.getD_cons_succ, Cst.den, syso, syse, syio, sybo, B2.ofInts, B2.denI, B2.denB, if_true, Bool.false_eq_true, if_false, Nat.div_one, Nat.mul_one, Nat.add_zero]
 done
theorem za9g_sync : za9c_sync.Good Tryz.prog syG (za9E [] [] [] []) := good_of_walk (Γ := ⟨[za9c_hck0, za9c_spck, za9c_set], syG, [], [], []⟩) (ρ := za9E [] [] [] []) sym sync_w rfl (fun _ _ _ _ => (ok_cons (Con.Good.env za9g_hck0 _ _ _ _) (ok_cons (Con.Good.env za9g_spck _ _ _ _) (ok_cons (Con.Good.env za9g_set _ _ _ _) ok_nil)))) sync_h
def clamp_tree : Tree :=
 (.ret (.int .i64 (.lit 0)))
abbrev za9c_clamp : Con := ⟨130, [(.int .i64 (.lit 0)), (.int .i64 (.lit (-1073741824))), (.int .i64 (.lit 1073741824))], (.tt true), (.int .i64 (.lit 0)), ⟨0, 0, 0, 0⟩, none⟩
theorem clamp_w : walk Tryz.prog 111 ⟨[], syG, [], [], []⟩ [] .v za9c_clamp za9c_clamp.n 3000 = some clamp_tree := by kernel_rfl
theorem clamp_h : Hyp_ za9c_clamp clamp_tree (za9E [] [] [] []) := by
 intro hc hty
 simp only [za9c_clamp, Sy.holds, za9E, denV, denI, denB, denL, I2.den, VOp.den, List.getD_cons_zero, List.getD_cons_succ, Cst.den, syso, syse, syio, sybo, B2.ofInts, B2.denI, B2.denB, if_true, Bool.false_eq_true, if_false, Nat.div_one, Nat.mul_one, Nat.add_zero] at hc
 simp only [za9c_clamp, patsTyp, patTyp, patTypL, za9E, denV, denL, List.getD_cons_zero, List.getD_cons_succ, and_true, true_and] at hty
 unfold clamp_tree
 simp only [za9c_clamp, Tree.holds, Sy.holds, za9E, denV, denI, denB, denL, I2.den, VOp.den, List.getD_cons_zero, List.getD_cons_succ, Cst.den, syso, syse, syio, sybo, B2.ofInts, B2.denI, B2.denB, if_true, Bool.false_eq_true, if_false, Nat.div_one, Nat.mul_one, Nat.add_zero]
 done
theorem za9g_clamp : za9c_clamp.Good Tryz.prog syG (za9E [] [] [] []) := good_of_walk (Γ := ⟨[], syG, [], [], []⟩) (ρ := za9E [] [] [] []) sym clamp_w rfl (fun _ _ _ _ => ok_nil) clamp_h
def adj_tree : Tree :=
 (.br (.not (eq_ (.iapp 23 (.cons (.int .u32 (.lit 2147483648)) (.cons (.int .i64 (.lit 31)) .nil))) (.lit 0)))
 (.ret (.tup (.cons (.agg (.cons (.int .u32 (.lit 0)) (.cons (.int .i64 (.lit 0)) .nil))) (.cons (.err (.iapp 23 (.cons (.int .u32 (.lit 2147483648)) (.cons (.int .i64 (.lit 31)) .nil)))) .nil))))
 (.ret (.tup (.cons xza9pgwk21_ (.cons (.cst .nilI) .nil)))))
abbrev za9c_adj : Con := ⟨80, [xza9pgwk21_, (.int .i64 (.lit 0))], (.tt true), (.tup (.cons xza9pgwk21_ (.cons (.err (.lit 0)) .nil))), ⟨0, 0, 0, 0⟩, none⟩
theorem adj_w : walk Tryz.prog 111 ⟨[zuc_rcheck, za9c_clamp], syG, [], [], []⟩ [] .v za9c_adj za9c_adj.n 3000 = some adj_tree := by kernel_rfl
theorem adj_h : Hyp_ za9c_adj adj_tree (za9E [] [] [] []) := by
 intro hc hty
 simp only [za9c_adj, Sy.holds, za9E, denV, denI, denB, denL, I2.den, VOp.den, List.getD_cons_zero, List.getD_cons_succ, Cst.den, syso, syse, syio, sybo, B2.ofInts, B2.denI, B2.denB, if_true, Bool.false_eq_true, if_false, Nat.div_one, Nat.mul_one, Nat.add_zero] at hc
 simp only [za9c_adj, patsTyp, patTyp, patTypL, za9E, denV, denL, List.getD_cons_zero, List.getD_cons_succ, and_true, true_and] at hty
 unfold adj_tree
 simp only [za9c_adj, Tree.holds, Sy.holds, za9E, denV, denI, denB, denL, I2.den, VOp.den, List.getD_cons_zero, List.getD_cons_succ, Cst.den, syso, syse, syio, sybo, za9i_fe, B2.ofInts, B2.denI, B2.denB, if_true, Bool.false_eq_true, if_false, Nat.div_one, Nat.mul_one, Nat.add_zero]
 have s0 := q_sz0
 have s2 := q_sz2
 have f0 := q_fe
 refine ⟨fun h0 => ?_, fun h0 => ?_⟩
 ·
  first
  | (exfalso; omega)
  | rfl
  | skip
 ·
  first
  | (exfalso; omega)
  | rfl
  | skip
theorem za9g_adj : za9c_adj.Good Tryz.prog syG (za9E [] [] [] []) := good_of_walk (Γ := ⟨[zuc_rcheck, za9c_clamp], syG, [], [], []⟩) (ρ := za9E [] [] [] []) sym adj_w rfl (fun _ _ _ _ => (ok_cons (Con.Good.env (Con.Good.up (Con.Good.up zug_rcheck zyup rfl) za9up rfl) _ _ _ _) (ok_cons (Con.Good.env za9g_clamp _ _ _ _) ok_nil))) adj_h
def hfac_tree : Tree :=
 (.ret (.tup (.cons xza9pgwk21_ (.cons (.err (.lit 0)) .nil))))
abbrev za9c_hfac : Con := ⟨35, [xza9pgwk2_], (.tt true), (.tup (.cons xza9pgwk21_ (.cons (.err (.lit 0)) .nil))), ⟨0, 0, 0, 0⟩, none⟩
theorem hfac_w : walk Tryz.prog 111 ⟨[za9c_hck1, za9c_adj], syG, [], [], []⟩ [] .v za9c_hfac za9c_hfac.n 3000 = some hfac_tree := by kernel_rfl
theorem hfac_h : Hyp_ za9c_hfac hfac_tree (za9E [] [] [] []) := by
 intro hc hty
 simp only [za9c_hfac, Sy.holds, za9E, denV, denI, denB, denL, I2.den, VOp.den, List.getD_cons_zero, List.getD_cons_succ, Cst.den, syso, syse, syio, sybo, B2.ofInts, B2.denI, B2.denB, if_true, Bool.false_eq_true, if_false, Nat.div_one, Nat.mul_one, Nat.add_zero] at hc
 simp only [za9c_hfac, patsTyp, patTyp, patTypL, za9E, denV, denL, List.getD_cons_zero, List.getD_cons_succ, and_true, true_and] at hty
 unfold hfac_tree
 simp only [za9c_hfac, Tree.holds, Sy.holds, za9E, denV, denI, denB, denL, I2.den, VOp.den, List.getD_cons_zero, List.getD_cons_succ, Cst.den, syso, syse, syio, sybo, B2.ofInts, B2.denI, B2.denB, if_true, Bool.false_eq_true, if_false, Nat.div_one, Nat.mul_one, Nat.add_zero]
 done
theorem za9g_hfac : za9c_hfac.Good Tryz.prog syG (za9E [] [] [] []) := good_of_walk (Γ := ⟨[za9c_hck1, za9c_adj], syG, [], [], []⟩) (ρ := za9E [] [] [] []) sym hfac_w rfl (fun _ _ _ _ => (ok_cons (Con.Good.env za9g_hck1 _ _ _ _) (ok_cons (Con.Good.env za9g_adj _ _ _ _) ok_nil))) hfac_h
def of_tree : Tree :=
 (.ret (.tup (.cons (.agg (.cons (.int .i64 (.lit 2)) (.cons (.int .i64 (.lit 4)) (.cons (.int .i64 (.lit 2)) (.cons (.int .i64 (.lit 1)) (.cons (.int .u32 (.lit 2147483648)) (.cons (.int .i64 (.lit 31)) (.cons (.int .u32 (.lit 2147483648)) (.cons (.int .i64 (.lit 31)) (.cons (.int .i64 (wr_ (ad_ (.lit 0) xza9pgwk24_))) (.cons (.int .i64 (.lit 8)) .nil))))))))))) (.cons (.cst .nilI) .nil))))
abbrev za9c_of : Con := ⟨6, [xza9pgwk2_, (.int .i64 (.lit 2)), (.int .i64 (.lit 8))], (.tt true), (.tup (.cons (.agg (.cons (.int .i64 (.lit 2)) (.cons (.int .i64 (.lit 4)) (.cons (.int .i64 (.lit 2)) (.cons (.int .i64 (.lit 1)) (.cons (.int .u32 (.lit 2147483648)) (.cons (.int .i64 (.lit 31)) (.cons (.int .u32 (.lit 2147483648)) (.cons (.int .i64 (.lit 31)) (.cons (.int .i64 (.lit 0)) (.cons (.int .i64 (.lit 8)) .nil))))))))))) (.cons (.err (.lit 0)) .nil))), ⟨0, 0, 0, 0⟩, none⟩
theorem of_w : walk Tryz.prog 111 ⟨[za9c_hck1, za9c_hfac, zuc_size], syG, [], [], []⟩ [] .v za9c_of za9c_of.n 3000 = some of_tree := by kernel_rfl
theorem of_h : Hyp_ za9c_of of_tree (za9E [] [] [] []) := by
 intro hc hty
 simp only [za9c_of, Sy.holds, za9E, denV, denI, denB, denL, I2.den, VOp.den, List.getD_cons_zero, List.getD_cons_succ, Cst.den, syso, syse, syio, sybo, B2.ofInts, B2.denI, B2.denB, if_true, Bool.false_eq_true, if_false, Nat.div_one, Nat.mul_one, Nat.add_zero] at hc
 simp only [za9c_of, patsTyp, patTyp, patTypL, za9E, denV, denL, List.getD_cons_zero, List.getD_cons_succ, and_true, true_and] at hty
 unfold of_tree
 simp only [za9c_of, Tree.holds, Sy.holds, za9E, denV, denI, denB, denL, I2.den, VOp.den, List.getD_cons_zero, List.getD_cons_succ, Cst.den, syso, syse, syio, sybo, za9i_sz, B2.ofInts, B2.denI, B2.denB, if_true, Bool.false_eq_true, if_false, Nat.div_one, Nat.mul_one, Nat.add_zero]
 have s0 := q_sz0
 have s2 := q_sz2
 have f0 := q_fe
 have wf0 := wr_i64 (0 + (szE 0))
 first
 | (exfalso; omega)
 | rfl
 | skip
theorem za9g_of : za9c_of.Good Tryz.prog syG (za9E [] [] [] []) := good_of_walk (Γ := ⟨[za9c_hck1, za9c_hfac, zuc_size], syG, [], [], []⟩) (ρ := za9E [] [] [] []) sym of_w rfl (fun _ _ _ _ => (ok_cons (Con.Good.env za9g_hck1 _ _ _ _) (ok_cons (Con.Good.env za9g_hfac _ _ _ _) (ok_cons (Con.Good.env (Con.Good.up (Con.Good.up zug_size zyup rfl) za9up rfl) _ _ _ _) ok_nil)))) of_h
def read7_tree : Tree :=
 (.ret (.tup (.cons xza9pgwk4_ (.cons (.iface 111 (.int .i64 (.lit 15))) .nil))))
abbrev za9c_read7 : Con := ⟨12, [(.agg (.cons (.int .u64 (.lit 7)) (.cons (.int .u64 xza9pgwk16_) (.cons (.int .u64 xza9pgwk6_) (.cons (.int .u64 xza9pgwk15_) (.cons (.int .u64 xza9pgwk14_) (.cons (.int .u64 xza9pgwk13_) (.cons (.int .u64 xza9pgwk12_) (.cons (.int .u64 xza9pgwk11_) (.cons (.int .u64 xza9pgwk10_) (.cons (.int .u64 xza9pgwk9_) (.cons (.int .u64 xza9pgwk8_) (.cons (.int .u64 xza9pgwk20_) (.cons (.int .u64 xza9pgwk19_) (.cons (.int .u64 xza9pgwk18_) (.cons (.int .u64 xza9pgwk17_) (.cons (.int .u64 xza9pgwk22_) .nil)))))))))))))))))], (.tt true), (.tup (.cons xza9pgwk4_ (.cons (.err (.lit 15)) .nil))), ⟨0, 0, 0, 0⟩, none⟩
theorem read7_w : walk Tryz.prog 111 ⟨[], syG, [], [], []⟩ [] .v za9c_read7 za9c_read7.n 3000 = some read7_tree := by kernel_rfl
theorem read7_h : Hyp_ za9c_read7 read7_tree (za9E [] [] [] []) := by
 intro hc hty
 simp only [za9c_read7, Sy.holds, za9E, denV, denI, denB, denL, I2.den, VOp.den, List.getD_cons_zero, List.getD_cons_succ, Cst.den, syso, syse, syio, sybo, B2.ofInts, B2.denI, B2.denB, if_true, Bool.false_eq_true, if_false, Nat.div_one, Nat.mul_one, Nat.add_zero] at hc
 simp only [za9c_read7, patsTyp, patTyp, patTypL, za9E, denV, denL, List.getD_cons_zero, List.getD_cons_succ, and_true, true_and] at hty
 unfold read7_tree
 simp only [za9c_read7, Tree.holds, Sy.holds, za9E, denV, denI, denB, denL, I2.den, VOp.den, List.getD_cons_zero, List.getD_cons_succ, Cst.den, syso, syse, syio, sybo, B2.ofInts, B2.denI, B2.denB, if_true, Bool.false_eq_true, if_false, Nat.div_one, Nat.mul_one, Nat.add_zero]
 have s0 := q_sz0
 have s2 := q_sz2
 have f0 := q_fe
 first
 | (exfalso; omega)
 | rfl
 | skip
theorem za9g_read7 : za9c_read7.Good Tryz.prog syG (za9E [] [] [] []) := good_of_walk (Γ := ⟨[], syG, [], [], []⟩) (ρ := za9E [] [] [] []) sym read7_w rfl (fun _ _ _ _ => ok_nil) read7_h
def read6_tree : Tree :=
 (.br (eq_ (.i2 .rem xza9pgwk3_ (.lit 2)) (.lit 1))
 (.ret (.tup (.cons xza9pgwk4_ (.cons (.iface 111 (.int .i64 (.lit 15))) .nil))))
 (.need (an_ (an_ (le_ (.lit 0) xza9pgwk16_) (le_ xza9pgwk16_ (.lit 18446744073709551615))) (an_ (an_ (le_ (.lit 0) xza9pgwk6_) (le_ xza9pgwk6_ (.lit 18446744073709551615))) (an_ (an_ (le_ (.lit 0) xza9pgwk15_) (le_ xza9pgwk15_ (.lit 18446744073709551615))) (an_ (an_ (le_ (.lit 0) xza9pgwk14_) (le_ xza9pgwk14_ (.lit 18446744073709551615))) (an_ (an_ (le_ (.lit 0) xza9pgwk13_) (le_ xza9pgwk13_ (.lit 18446744073709551615))) (an_ (an_ (le_ (.lit 0) xza9pgwk12_) (le_ xza9pgwk12_ (.lit 18446744073709551615))) (an_ (an_ (le_ (.lit 0) xza9pgwk11_) (le_ xza9pgwk11_ (.lit 18446744073709551615))) (an_ (an_ (le_ (.lit 0) xza9pgwk10_) (le_ xza9pgwk10_ (.lit 18446744073709551615))) (an_ (an_ (le_ (.lit 0) xza9pgwk9_) (le_ xza9pgwk9_ (.lit 18446744073709551615))) (an_ (an_ (le_ (.lit 0) xza9pgwk8_) (le_ xza9pgwk8_ (.lit 18446744073709551615))) (an_ (an_ (le_ (.lit 0) xza9pgwk20_) (le_ xza9pgwk20_ (.lit 18446744073709551615))) (an_ (an_ (le_ (.lit 0) xza9pgwk19_) (le_ xza9pgwk19_ (.lit 18446744073709551615))) (an_ (an_ (le_ (.lit 0) xza9pgwk18_) (le_ xza9pgwk18_ (.lit 18446744073709551615))) (an_ (le_ (.lit 0) xza9pgwk17_) (le_ xza9pgwk17_ (.lit 18446744073709551615))))))))))))))))
 (.br (.not (eq_ xza9pgwk22_ (.iapp 25 (.cons (.tup (.cons (.int .u64 xza9pgwk16_) (.cons (.int .u64 xza9pgwk6_) (.cons (.int .u64 xza9pgwk15_) (.cons (.int .u64 xza9pgwk14_) (.cons (.int .u64 xza9pgwk13_) (.cons (.int .u64 xza9pgwk12_) (.cons (.int .u64 xza9pgwk11_) (.cons (.int .u64 xza9pgwk10_) (.cons (.int .u64 xza9pgwk9_) (.cons (.int .u64 xza9pgwk8_) (.cons (.int .u64 xza9pgwk20_) (.cons (.int .u64 xza9pgwk19_) (.cons (.int .u64 xza9pgwk18_) (.cons (.int .u64 xza9pgwk17_) .nil))))))))))))))) .nil))))
 (.ret (.tup (.cons xza9pgwk4_ (.cons (.iface 111 (.int .i64 (.lit 4))) .nil))))
 (.need (an_ (an_ (an_ (le_ lm_ (wr_ xza9pgwk16_)) (le_ (wr_ xza9pgwk16_) lM_)) (an_ (an_ (le_ lm_ (wr_ xza9pgwk6_)) (le_ (wr_ xza9pgwk6_) lM_)) (an_ (an_ (le_ lm_ (wr_ xza9pgwk15_)) (le_ (wr_ xza9pgwk15_) lM_)) (an_ (an_ (le_ lm_ (wr_ xza9pgwk14_)) (le_ (wr_ xza9pgwk14_) lM_)) (an_ (an_ (le_ (.lit 0) (.wrap .u32 (wr_ xza9pgwk13_))) (le_ (.wrap .u32 (wr_ xza9pgwk13_)) (.lit 4294967295))) (an_ (an_ (le_ lm_ (wr_ xza9pgwk12_)) (le_ (wr_ xza9pgwk12_) lM_)) (an_ (an_ (le_ (.lit 0) (.wrap .u32 (wr_ xza9pgwk11_))) (le_ (.wrap .u32 (wr_ xza9pgwk11_)) (.lit 4294967295))) (an_ (an_ (le_ lm_ (wr_ xza9pgwk10_)) (le_ (wr_ xza9pgwk10_) lM_)) (an_ (an_ (le_ lm_ (wr_ xza9pgwk9_)) (le_ (wr_ xza9pgwk9_) lM_)) (an_ (le_ lm_ (wr_ xza9pgwk8_)) (le_ (wr_ xza9pgwk8_) lM_))))))))))) (an_ (.bapp 5 (.cons xza9pgwk1_ .nil)) (an_ (le_ (.lit 0) xza9pgwk3_) (le_ xza9pgwk3_ (.lit 18446744073709551615)))))
 (.br (.not (an_ (eq_ (.iapp 26 (.cons xza9pgwk1_ (.cons (.int .u64 xza9pgwk3_) (.cons (.int .i64 (.lit 0)) .nil)))) xza9pgwk3_) (an_ (eq_ (.iapp 26 (.cons xza9pgwk1_ (.cons (.int .u64 xza9pgwk3_) (.cons (.int .i64 (.lit 1)) .nil)))) xza9pgwk16_) (an_ (eq_ (.iapp 26 (.cons xza9pgwk1_ (.cons (.int .u64 xza9pgwk3_) (.cons (.int .i64 (.lit 2)) .nil)))) xza9pgwk6_) (an_ (eq_ (.iapp 26 (.cons xza9pgwk1_ (.cons (.int .u64 xza9pgwk3_) (.cons (.int .i64 (.lit 3)) .nil)))) xza9pgwk15_) (an_ (eq_ (.iapp 26 (.cons xza9pgwk1_ (.cons (.int .u64 xza9pgwk3_) (.cons (.int .i64 (.lit 4)) .nil)))) xza9pgwk14_) (an_ (eq_ (.iapp 26 (.cons xza9pgwk1_ (.cons (.int .u64 xza9pgwk3_) (.cons (.int .i64 (.lit 5)) .nil)))) xza9pgwk13_) (an_ (eq_ (.iapp 26 (.cons xza9pgwk1_ (.cons (.int .u64 xza9pgwk3_) (.cons (.int .i64 (.lit 6)) .nil)))) xza9pgwk12_) (an_ (eq_ (.iapp 26 (.cons xza9pgwk1_ (.cons (.int .u64 xza9pgwk3_) (.cons (.int .i64 (.lit 7)) .nil)))) xza9pgwk11_) (an_ (eq_ (.iapp 26 (.cons xza9pgwk1_ (.cons (.int .u64 xza9pgwk3_) (.cons (.int .i64 (.lit 8)) .nil)))) xza9pgwk10_) (an_ (eq_ (.iapp 26 (.cons xza9pgwk1_ (.cons (.int .u64 xza9pgwk3_) (.cons (.int .i64 (.lit 9)) .nil)))) xza9pgwk9_) (an_ (eq_ (.iapp 26 (.cons xza9pgwk1_ (.cons (.int .u64 xza9pgwk3_) (.cons (.int .i64 (.lit 10)) .nil)))) xza9pgwk8_) (an_ (eq_ (.iapp 26 (.cons xza9pgwk1_ (.cons (.int .u64 xza9pgwk3_) (.cons (.int .i64 (.lit 11)) .nil)))) xza9pgwk20_) (an_ (eq_ (.iapp 26 (.cons xza9pgwk1_ (.cons (.int .u64 xza9pgwk3_) (.cons (.int .i64 (.lit 12)) .nil)))) xza9pgwk19_) (an_ (eq_ (.iapp 26 (.cons xza9pgwk1_ (.cons (.int .u64 xza9pgwk3_) (.cons (.int .i64 (.lit 13)) .nil)))) xza9pgwk18_) (an_ (eq_ (.iapp 26 (.cons xza9pgwk1_ (.cons (.int .u64 xza9pgwk3_) (.cons (.int .i64 (.lit 14)) .nil)))) xza9pgwk17_) (eq_ (.iapp 26 (.cons xza9pgwk1_ (.cons (.int .u64 xza9pgwk3_) (.cons (.int .i64 (.lit 15)) .nil)))) xza9pgwk22_)))))))))))))))))
 (.ret (.tup (.cons xza9pgwk4_ (.cons (.iface 111 (.int .i64 (.lit 3))) .nil))))
 (.ret (.tup (.cons (.agg (.cons (.int .i64 (wr_ xza9pgwk16_)) (.cons (.int .i64 (wr_ xza9pgwk6_)) (.cons (.int .i64 (wr_ xza9pgwk15_)) (.cons (.int .i64 (wr_ xza9pgwk14_)) (.cons (.int .u32 (.wrap .u32 (wr_ xza9pgwk13_))) (.cons (.int .i64 (wr_ xza9pgwk12_)) (.cons (.int .u32 (.wrap .u32 (wr_ xza9pgwk11_))) (.cons (.int .i64 (wr_ xza9pgwk10_)) (.cons (.int .i64 (wr_ xza9pgwk9_)) (.cons (.int .i64 (wr_ xza9pgwk8_)) .nil))))))))))) (.cons (.cst .nilI) .nil)))))))))
abbrev za9c_read6 : Con := ⟨12, [(.agg (.cons (.int .u64 xza9pgwk3_) (.cons (.int .u64 xza9pgwk16_) (.cons (.int .u64 xza9pgwk6_) (.cons (.int .u64 xza9pgwk15_) (.cons (.int .u64 xza9pgwk14_) (.cons (.int .u64 xza9pgwk13_) (.cons (.int .u64 xza9pgwk12_) (.cons (.int .u64 xza9pgwk11_) (.cons (.int .u64 xza9pgwk10_) (.cons (.int .u64 xza9pgwk9_) (.cons (.int .u64 xza9pgwk8_) (.cons (.int .u64 xza9pgwk20_) (.cons (.int .u64 xza9pgwk19_) (.cons (.int .u64 xza9pgwk18_) (.cons (.int .u64 xza9pgwk17_) (.cons (.int .u64 xza9pgwk22_) .nil)))))))))))))))))], (.tt true), (.tup (.cons xza9pgwk7_ (.cons (.err (.lit 0)) .nil))), ⟨0, 0, 0, 0⟩, none⟩
theorem read6_w : walk Tryz.prog 111 ⟨[zuc_psum, zyc_gather, zuc_lay], syG, [], [], []⟩ [] .v za9c_read6 za9c_read6.n 3000 = some read6_tree := by kernel_rfl
theorem read6_h : Hyp_ za9c_read6 read6_tree (za9E [] [] [] []) := by
 intro hc hty
 simp only [za9c_read6, Sy.holds, za9E, denV, denI, denB, denL, I2.den, VOp.den, List.getD_cons_zero, List.getD_cons_succ, Cst.den, syso, syse, syio, sybo, B2.ofInts, B2.denI, B2.denB, if_true, Bool.false_eq_true, if_false, Nat.div_one, Nat.mul_one, Nat.add_zero] at hc
 simp only [za9c_read6, patsTyp, patTyp, patTypL, za9E, denV, denL, List.getD_cons_zero, List.getD_cons_succ, and_true, true_and] at hty
 unfold read6_tree
 simp only [za9c_read6, Tree.holds, Sy.holds, za9E, denV, denI, denB, denL, I2.den, VOp.den, List.getD_cons_zero, List.getD_cons_succ, Cst.den, syso, syse, syio, sybo, za9i_ws, za9i_lw, za9b_pm, B2.ofInts, B2.denI, B2.denB, if_true, Bool.false_eq_true, if_false, Nat.div_one, Nat.mul_one, Nat.add_zero]
 simp only [wd0, wd1, wd2, wd3, wd4, wd5, wd6, wd7, wd8, wd9, wd10, wd11, wd12, wd13, wd14, wd15, q_u]
 simp only [rows_tup, ql0, ql1, ql2, ql3, ql4, ql5, ql6, ql7, ql8, ql9]
 simp only [wd0, wd1, wd2, wd3, wd4, wd5, wd6, wd7, wd8, wd9, wd10, wd11, wd12, wd13, wd14, wd15, q_u, rows_tup, and_self, true_and, and_true, eq_self_iff_true]
 refine ⟨fun h0 => ?_, fun h0 => ?_⟩
 refine ?a0; rotate_left
 refine ⟨?_, fun h1 => ?_⟩
 ·
  first
  | omega
  | decide
  | skip
 refine ⟨fun h2 => ?_, fun h2 => ?_⟩
 refine ?a1; rotate_left
 refine ⟨?_, fun h3 => ?_⟩
 ·
  first
  | omega
  | decide
  | skip
 refine ⟨fun h4 => ?_, fun h4 => ?_⟩
 refine ?a2; rotate_left
 refine ?a3; rotate_left
 case a0 | a1 | a2 | a3 =>
  first
  | exact absurd h0 (by decide)
  | exact absurd True.intro (by assumption)
  | (exfalso; omega)
  | rfl
  | skip
theorem za9g_read6 : za9c_read6.Good Tryz.prog syG (za9E [] [] [] []) := good_of_walk (Γ := ⟨[zuc_psum, zyc_gather, zuc_lay], syG, [], [], []⟩) (ρ := za9E [] [] [] []) sym read6_w rfl (fun _ _ _ _ => (ok_cons (Con.Good.env (Con.Good.up (Con.Good.up zug_psum zyup rfl) za9up rfl) _ _ _ _) (ok_cons (Con.Good.env (Con.Good.up zyg_gather za9up rfl) _ _ _ _) (ok_cons (Con.Good.env (Con.Good.up (Con.Good.up zug_lay zyup rfl) za9up rfl) _ _ _ _) ok_nil)))) read6_h
def sure19_tree : Tree :=
 (.need (.bapp 5 (.cons xza9pgwk0_ .nil))
 (.br (eq_ xza9pgwk6_ (.lit 5))
 (.ret (.bool (.tt true)))
 (.ret (.bool (.tt false)))))
abbrev za9c_sure19 : Con := ⟨19, [], (.tt true), (.bool (.tt true)), ⟨0, 0, 0, 0⟩, none⟩
theorem sure19_w : walk Tryz.prog 111 ⟨[za9c_some, zuc_lay, za9c_read6, za9c_read7, za9c_sync, za9c_of, zyc_num], syG, [], [], []⟩ [] .v za9c_sure19 za9c_sure19.n 3000 = some sure19_tree := by kernel_rfl
theorem sure19_h : Hyp_ za9c_sure19 sure19_tree (za9E [] [] [] []) := by
 intro hc hty
 simp only [za9c_sure19, Sy.holds, za9E, denV, denI, denB, denL, I2.den, VOp.den, List.getD_cons_zero, List.getD_cons_succ, Cst.den, syso, syse, syio, sybo, B2.ofInts, B2.denI, B2.denB, if_true, Bool.false_eq_true, if_false, Nat.div_one, Nat.mul_one, Nat.add_zero] at hc
 simp only [za9c_sure19, patsTyp, patTyp, patTypL, za9E, denV, denL, List.getD_cons_zero, List.getD_cons_succ, and_true, true_and] at hty
 unfold sure19_tree
 simp only [za9c_sure19, Tree.holds, Sy.holds, za9E, denV, denI, denB, denL, I2.den, VOp.den, List.getD_cons_zero, List.getD_cons_succ, Cst.den, syso, syse, syio, sybo, za9i_lw, za9b_pm, B2.ofInts, B2.denI, B2.denB, if_true, Bool.false_eq_true, if_false, Nat.div_one, Nat.mul_one, Nat.add_zero]
 have s0 := q_l2
 refine ⟨?_, fun h0 => ?_⟩
 ·
  first
  | exact True.intro
  | omega
  | exact q_pm
  | exact ⟨by decide, q_pm, by decide⟩
  | decide
  | skip
 refine ⟨fun h1 => ?_, fun h1 => ?_⟩
 refine ?a0; rotate_left
 refine ?a1; rotate_left
 case a0 | a1 =>
  first
  | rfl
  | (exfalso; omega)
  | exact absurd q_l2 (by assumption)
  | exact True.intro
  | skip
theorem za9g_sure19 : za9c_sure19.Good Tryz.prog syG (za9E [] [] [] []) := good_of_walk (Γ := ⟨[za9c_some, zuc_lay, za9c_read6, za9c_read7, za9c_sync, za9c_of, zyc_num], syG, [], [], []⟩) (ρ := za9E [] [] [] []) sym sure19_w rfl (fun _ _ _ _ => (ok_cons (Con.Good.env za9g_some _ _ _ _) (ok_cons (Con.Good.env (Con.Good.up (Con.Good.up zug_lay zyup rfl) za9up rfl) _ _ _ _) (ok_cons (Con.Good.env za9g_read6 _ _ _ _) (ok_cons (Con.Good.env za9g_read7 _ _ _ _) (ok_cons (Con.Good.env za9g_sync _ _ _ _) (ok_cons (Con.Good.env za9g_of _ _ _ _) (ok_cons (Con.Good.env (Con.Good.up zyg_num za9up rfl) _ _ _ _) ok_nil)))))))) sure19_h
end Go.Proofs.YtgondiedehjkhaaGreatDoor
