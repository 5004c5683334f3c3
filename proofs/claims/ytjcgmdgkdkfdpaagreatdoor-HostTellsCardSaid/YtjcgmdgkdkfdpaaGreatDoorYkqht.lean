/-
 Layer 18 by the second engine: what must come, the laws.
-/
import Derived.Test.YtjcgmdgkdkfdpaaGreatDoorSycqht
import Derived.Test.YtjcgmdgkdkfdpaaGreatDoorYjqht
import Derived.Test.YtjcgmdgkdkfdpaaGreatDoorE00qht
import Derived.Test.YtjcgmdgkdkfdpaaGreatDoorNumqht
namespace Go.Proofs.YtjcgmdgkdkfdpaaGreatDoor
open Go.RowKit Go.Extern.Stop Go.Stop Go.Extern Go.Proofs.YtjcgmdgkdkfdpaaGreatDoor.Sy
set_option linter.unusedVariables false
set_option linter.unusedSimpArgs false
abbrev xrykqhtk0_ : Tm := (.iapp 42 (.cons (.tup (.cons (.int .u32 v0_) (.cons z1_ (.cons z2_ (.cons z3_ (.cons z4_ (.cons z5_ (.cons z6_ (.cons (.bool (.tt false)) (.cons (.int .i64 (.lit 0)) (.cons (.int .i64 (.lit 0)) (.cons (.int .i64 (.lit 0)) (.cons (.int .i64 (.lit 0)) (.cons (.int .i64 (.lit 0)) .nil)))))))))))))) .nil))
abbrev xrykqhtk1_ : Tm := (.tup (.cons (.int .u32 (.lit 2147483648)) (.cons (.int .i64 (.lit 31)) (.cons (.int .i64 (.lit 100)) (.cons (.int .i64 (.lit 4)) (.cons (.int .i64 (.lit 1)) (.cons (.int .i64 (.lit 1000)) (.cons (.int .i64 (.lit 1099511627776)) (.cons (.bool (.tt true)) (.cons (.int .i64 (.lit 0)) (.cons (.int .i64 (.lit 100)) (.cons (.int .i64 (.lit 5)) (.cons (.int .i64 (.lit 0)) (.cons (.int .i64 (.lit 0)) .nil))))))))))))))
abbrev xrykqhtk2_ : Tm := (.tup (.cons (.int .u32 (.lit 2147483648)) (.cons (.int .i64 (.lit 31)) (.cons (.int .i64 (.lit 100)) (.cons (.int .i64 (.lit 4)) (.cons (.int .i64 (.lit 1)) (.cons (.int .i64 (.lit 1000)) (.cons (.int .i64 (.lit 1099511627776)) (.cons (.bool (.tt false)) (.cons (.int .i64 (.lit 0)) (.cons (.int .i64 (.lit 0)) (.cons (.int .i64 (.lit 0)) (.cons (.int .i64 (.lit 0)) (.cons (.int .i64 (.lit 0)) .nil))))))))))))))
abbrev xrykqhtk3_ : Tm := (.agg (.cons (.int .u32 (.lit 2147483648)) (.cons (.int .i64 (.lit 31)) (.cons (.int .i64 (.lit 100)) (.cons (.int .i64 (.lit 4)) (.cons (.int .i64 (.lit 1)) (.cons (.int .i64 (.lit 1000)) (.cons (.int .i64 (.lit 1099511627776)) (.cons (.bool (.tt false)) (.cons (.int .i64 (.lit 0)) (.cons (.int .i64 (.lit 0)) (.cons (.int .i64 (.lit 0)) (.cons (.int .i64 (.lit 0)) (.cons (.int .i64 (.lit 0)) .nil))))))))))))))
abbrev xrykqhtk4_ : Tm := (.agg (.cons (.int .u32 (.lit 0)) (.cons (.int .i64 (.lit 0)) (.cons (.int .i64 (.lit 0)) (.cons (.int .i64 (.lit 0)) (.cons (.int .i64 (.lit 0)) (.cons (.int .i64 (.lit 0)) (.cons (.int .i64 (.lit 0)) (.cons (.bool (.tt false)) (.cons (.int .i64 (.lit 0)) (.cons (.int .i64 (.lit 0)) (.cons (.int .i64 (.lit 0)) (.cons (.int .i64 (.lit 0)) (.cons (.int .i64 (.lit 0)) .nil))))))))))))))
abbrev xrykqhtk5_ : Tm := (.tup (.cons (.agg (.cons (.int .u32 (.lit 2147483648)) (.cons (.int .i64 (.lit 31)) (.cons (.int .i64 (.lit 100)) (.cons (.int .i64 (.lit 4)) (.cons (.int .i64 (.lit 1)) (.cons (.int .i64 (.lit 1000)) (.cons (.int .i64 (.lit 1099511627776)) (.cons (.bool (.tt true)) (.cons (.int .i64 (.lit 0)) (.cons (.int .i64 (.lit 100)) (.cons (.int .i64 (.lit 5)) (.cons (.int .i64 (.lit 0)) (.cons (.int .i64 (.lit 0)) .nil)))))))))))))) (.cons (.err (.lit 0)) .nil)))
abbrev xrykqhtk6_ : Tm := (.agg (.cons (.int .u32 v0_) (.cons z1_ (.cons z2_ (.cons z3_ (.cons z4_ (.cons z5_ (.cons z6_ (.cons (.bool (.bvar 0)) (.cons z7_ (.cons z8_ (.cons z9_ (.cons (.int .i64 (.var 10)) (.cons (.int .i64 (.var 11)) .nil))))))))))))))
abbrev xrykqhtk7_ : Tm := (.agg (.cons (.int .u32 (.lit 2147483648)) (.cons (.int .i64 (.lit 31)) (.cons (.int .i64 (.lit 100)) (.cons (.int .i64 (.lit 4)) (.cons (.int .i64 (.lit 1)) (.cons (.int .i64 (.lit 1000)) (.cons (.int .i64 (.lit 1099511627776)) .nil))))))))
abbrev xrykqhtk8_ : Tm := (an_ (an_ (le_ (.lit 0) v0_) (le_ v0_ (.lit 4294967295))) (an_ (an_ (le_ lm_ v1_) (le_ v1_ lM_)) (an_ (an_ (le_ lm_ v2_) (le_ v2_ lM_)) (an_ (an_ (le_ lm_ v3_) (le_ v3_ lM_)) (an_ (an_ (le_ lm_ v4_) (le_ v4_ lM_)) (an_ (an_ (le_ lm_ v5_) (le_ v5_ lM_)) (an_ (le_ lm_ v6_) (le_ v6_ lM_))))))))
abbrev xrykqhtk9_ : Tm := (.agg (.cons (.int .u32 v0_) (.cons z1_ (.cons z2_ (.cons z3_ (.cons z4_ (.cons z5_ (.cons z6_ (.cons (.bool (.tt false)) (.cons z7_ (.cons z8_ (.cons z9_ (.cons (.int .i64 (.var 10)) (.cons (.int .i64 (.var 11)) .nil))))))))))))))
theorem h_r : hoL (Sy.rows (.tuple #[.int .u32 2147483648, .int .i64 31, .int .i64 100, .int .i64 4, .int .i64 1, .int .i64 1000, .int .i64 1099511627776, .bool false, .int .i64 0, .int .i64 0, .int .i64 0, .int .i64 0, .int .i64 0])) = 0 := by decide
theorem num18_any (n : Int) (w : World) (hg : w.cell? ⟨0, 0, none⟩ = some asHandle) : Calls Tryz.prog 15 #[errVal 94 n] w fun e w' => e = .returned (.int .i64 n) ∧ Below w.heap.size w w' := by
 unfold errVal
 split
 · rename_i h; subst h; exact num18_nil _
 · exact num18_err _ _ hg
theorem h_0 : hoL (Sy.rows (.tuple #[.int .u32 2147483648, .int .i64 31, .int .i64 100, .int .i64 4, .int .i64 1, .int .i64 1000, .int .i64 1099511627776, .bool false, .int .i64 0, .int .i64 0, .int .i64 0, .int .i64 0, .int .i64 0])) = 0 := by decide
theorem h_1 : nwEl (Sy.rows (.tuple #[.int .u32 2147483648, .int .i64 31, .int .i64 100, .int .i64 4, .int .i64 1, .int .i64 1000, .int .i64 1099511627776, .bool false, .int .i64 0, .int .i64 0, .int .i64 0, .int .i64 0, .int .i64 0])) 0 = 13 := by decide
theorem h_7 : nwEl (Sy.rows (.tuple #[.int .u32 2147483648, .int .i64 31, .int .i64 100, .int .i64 4, .int .i64 1, .int .i64 1000, .int .i64 1099511627776, .bool true, .int .i64 0, .int .i64 100, .int .i64 5, .int .i64 0, .int .i64 0])) 10 = 0 := by decide
theorem h_8 : nwTl (Sy.rows (.tuple #[.int .u32 2147483648, .int .i64 31, .int .i64 100, .int .i64 4, .int .i64 1, .int .i64 1000, .int .i64 1099511627776, .bool true, .int .i64 0, .int .i64 100, .int .i64 5, .int .i64 0, .int .i64 0])) 10 = 110 := by decide
theorem h_9 : nwOl (Sy.rows (.tuple #[.int .u32 2147483648, .int .i64 31, .int .i64 100, .int .i64 4, .int .i64 1, .int .i64 1000, .int .i64 1099511627776, .bool true, .int .i64 0, .int .i64 100, .int .i64 5, .int .i64 0, .int .i64 0])) 10 = 10 := by decide
theorem h_10 : nwEl (Sy.rows (.tuple #[.int .u32 2147483648, .int .i64 31, .int .i64 100, .int .i64 4, .int .i64 1, .int .i64 1000, .int .i64 1099511627776, .bool true, .int .i64 0, .int .i64 100, .int .i64 5, .int .i64 0, .int .i64 0])) (-1) = 10 := by decide
theorem h_s : spI 95 105 = 0 := by decide
theorem h_m : miI 95 105 = 100 := by decide
theorem h_t : satE (105 - 100) = 5 := by decide
theorem h_u : satE 5 = 5 := by decide
noncomputable def ykI : Nat → List Value → Int
 | i, l => yjI i l
noncomputable def ykB : Nat → List Value → Bool
 | i, l => yjB i l
noncomputable def ykV : Nat → List Value → Value
 | i, l => yjV i l
noncomputable abbrev ykE (iv : List Int) (bv : List Bool) (vv : List Value) (sv : List ByteArray) : Env := { iv := iv, bv := bv, vv := vv, sv := sv, fi := ykI, fb := ykB, fv := ykV, et := 94 }
set_option maxHeartbeats 8000000 in
theorem ykup : Agree 57 5 2 (yjE [] [] [] []) (ykE [] [] [] []) := ⟨rfl, (by
   intro f hf
   funext l
   show ykI f l = yjI f l
   unfold ykI
   split <;> first | rfl | omega), (by
   intro f hf
   funext l
   show ykB f l = yjB f l
   unfold ykB
   split <;> first | rfl | omega), (by
   intro f hf
   funext l
   show ykV f l = yjV f l
   unfold ykV
   split <;> first | rfl | omega)⟩
theorem yki_sa (k1 : IntKind) (a : Int) : ykI 1 [.int k1 a] = satE a := rfl
theorem yki_se (k1 : IntKind) (a : Int) (k2 : IntKind) (b : Int) : ykI 30 [.int k1 a, .int k2 b] = spI a b := rfl
theorem yki_mi (k1 : IntKind) (a : Int) (k2 : IntKind) (b : Int) : ykI 31 [.int k1 a, .int k2 b] = miI a b := rfl
theorem yki_hme (l : Value) : ykI 42 [l] = hoL (rows l) := rfl
theorem yki_nwe (l : Value) (k1 : IntKind) (k : Int) : ykI 46 [l, .int k1 k] = nwEl (rows l) k := rfl
theorem yki_nwt (l : Value) (k1 : IntKind) (k : Int) : ykI 47 [l, .int k1 k] = nwTl (rows l) k := rfl
theorem yki_nwo (l : Value) (k1 : IntKind) (k : Int) : ykI 48 [l, .int k1 k] = nwOl (rows l) k := rfl
theorem yki_gd (k1 : IntKind) (e : Int) (k2 : IntKind) (x : Int) : ykI 54 [.int k1 e, .int k2 x] = gdF e x := rfl
abbrev ykc_num : Con := ⟨15, [(.err v0_)], (.tt true), z0_, ⟨1, 0, 0, 0⟩, none⟩
theorem ykg_num : ykc_num.Good Tryz.prog syG (ykE [] [] [] []) := good_flat rfl rfl rfl (by
 intro n hc β ok w hG
 have hc' := hc
 simp only [Tree.holds, Sy.holds, AllN, Env.more, ykE, List.cons_append, List.nil_append, List.append_nil, denV, denI, denB, denL, I2.den, VOp.den, List.getD_cons_zero, List.getD_cons_succ, Cst.den, syso, syse, syio, sybo, List.map_nil, List.map_cons, B2.ofInts, B2.denI, B2.denB, if_true, Bool.false_eq_true, if_false, Nat.div_one, Nat.mul_one, Nat.add_zero, holds] at hc
 exact num18_any n w (hG _ (List.mem_singleton.2 rfl)).2.2)
def rule_tree : Tree :=
 (.ret xrykqhtk7_)
abbrev ykc_rule : Con := ⟨57, [], (.tt true), xrykqhtk7_, ⟨0, 0, 0, 0⟩, none⟩
theorem rule_w : walk Tryz.prog 94 ⟨[], syG, [], [], []⟩ [] .v ykc_rule ykc_rule.n 3000 = some rule_tree := by kernel_rfl
theorem rule_h : Hyp_ ykc_rule rule_tree (ykE [] [] [] []) := by
 intro hc hty
 simp only [ykc_rule, Sy.holds, ykE, denV, denI, denB, denL, I2.den, VOp.den, List.getD_cons_zero, List.getD_cons_succ, Cst.den, syso, syse, syio, sybo, B2.ofInts, B2.denI, B2.denB, if_true, Bool.false_eq_true, if_false, Nat.div_one, Nat.mul_one, Nat.add_zero] at hc
 simp only [ykc_rule, patsTyp, patTyp, patTypL, ykE, denV, denL, List.getD_cons_zero, List.getD_cons_succ, and_true, true_and] at hty
 unfold rule_tree
 simp only [ykc_rule, Tree.holds, Sy.holds, ykE, denV, denI, denB, denL, I2.den, VOp.den, List.getD_cons_zero, List.getD_cons_succ, Cst.den, syso, syse, syio, sybo, B2.ofInts, B2.denI, B2.denB, if_true, Bool.false_eq_true, if_false, Nat.div_one, Nat.mul_one, Nat.add_zero]
 all_goals first | omega | rfl | (simp only [Value.tuple.injEq, Value.agg.injEq, Value.int.injEq, Value.bool.injEq, Array.mk.injEq, List.cons.injEq, true_and, and_true]; omega) | (refine congrArg Value.bool (Bool.eq_iff_iff.2 ?_); simp only [beq_iff_eq, decide_eq_true_eq, true_iff, false_iff, Bool.false_eq_true, Bool.not_eq_true', Bool.and_eq_true, Bool.or_eq_true, decide_eq_false_iff_not]; omega)
theorem ykg_rule : ykc_rule.Good Tryz.prog syG (ykE [] [] [] []) := good_of_walk (Γ := ⟨[], syG, [], [], []⟩) (ρ := ykE [] [] [] []) sym rule_w rfl (fun _ _ _ _ => ok_nil) rule_h
def give_tree : Tree :=
 (.ret xrykqhtk6_)
abbrev ykc_give : Con := ⟨6, [xrykqhtk6_], (.tt true), xrykqhtk6_, ⟨12, 1, 0, 0⟩, none⟩
theorem give_w : walk Tryz.prog 94 ⟨[], syG, [], [], []⟩ [] .v ykc_give ykc_give.n 3000 = some give_tree := by kernel_rfl
theorem give_h (rm rs rr gp gi rl ro hb ht he sf ss : Int) (sy : Bool) : Hyp_ ykc_give give_tree (ykE [rm, rs, rr, gp, gi, rl, ro, hb, ht, he, sf, ss] [sy] [] []) := by
 intro hc hty
 simp only [ykc_give, Sy.holds, ykE, denV, denI, denB, denL, I2.den, VOp.den, List.getD_cons_zero, List.getD_cons_succ, Cst.den, syso, syse, syio, sybo, B2.ofInts, B2.denI, B2.denB, if_true, Bool.false_eq_true, if_false, Nat.div_one, Nat.mul_one, Nat.add_zero] at hc
 simp only [ykc_give, patsTyp, patTyp, patTypL, ykE, denV, denL, List.getD_cons_zero, List.getD_cons_succ, and_true, true_and] at hty
 unfold give_tree
 simp only [ykc_give, Tree.holds, Sy.holds, ykE, denV, denI, denB, denL, I2.den, VOp.den, List.getD_cons_zero, List.getD_cons_succ, Cst.den, syso, syse, syio, sybo, B2.ofInts, B2.denI, B2.denB, if_true, Bool.false_eq_true, if_false, Nat.div_one, Nat.mul_one, Nat.add_zero]
 all_goals first | omega | rfl | (simp only [Value.tuple.injEq, Value.agg.injEq, Value.int.injEq, Value.bool.injEq, Array.mk.injEq, List.cons.injEq, true_and, and_true]; omega) | (refine congrArg Value.bool (Bool.eq_iff_iff.2 ?_); simp only [beq_iff_eq, decide_eq_true_eq, true_iff, false_iff, Bool.false_eq_true, Bool.not_eq_true', Bool.and_eq_true, Bool.or_eq_true, decide_eq_false_iff_not]; omega)
theorem ykg_give : ykc_give.Good Tryz.prog syG (ykE [] [] [] []) := good_of_walk (Γ := ⟨[], syG, [], [], []⟩) (ρ := ykE [] [] [] []) sym give_w rfl (fun _ _ _ _ => ok_nil) give_h
def hnew_tree : Tree :=
 (.need xrykqhtk8_
 (.br (.not (eq_ xrykqhtk0_ (.lit 0)))
 (.ret (.tup (.cons xrykqhtk4_ (.cons (.err xrykqhtk0_) .nil))))
 (.ret (.tup (.cons (.agg (.cons (.int .u32 v0_) (.cons z1_ (.cons z2_ (.cons z3_ (.cons z4_ (.cons z5_ (.cons z6_ (.cons (.bool (.tt false)) (.cons (.int .i64 (.lit 0)) (.cons (.int .i64 (.lit 0)) (.cons (.int .i64 (.lit 0)) (.cons (.int .i64 (.lit 0)) (.cons (.int .i64 (.lit 0)) .nil)))))))))))))) (.cons (.cst .nilI) .nil))))))
abbrev ykc_hnew : Con := ⟨11, [(.agg (.cons (.int .u32 v0_) (.cons z1_ (.cons z2_ (.cons z3_ (.cons z4_ (.cons z5_ (.cons z6_ .nil))))))))], xrykqhtk8_, (.tup (.cons (.agg (.cons (.int .u32 (.iapp 54 (.cons (.int .i64 xrykqhtk0_) (.cons z0_ .nil)))) (.cons (.int .i64 (.iapp 54 (.cons (.int .i64 xrykqhtk0_) (.cons z1_ .nil)))) (.cons (.int .i64 (.iapp 54 (.cons (.int .i64 xrykqhtk0_) (.cons z2_ .nil)))) (.cons (.int .i64 (.iapp 54 (.cons (.int .i64 xrykqhtk0_) (.cons z3_ .nil)))) (.cons (.int .i64 (.iapp 54 (.cons (.int .i64 xrykqhtk0_) (.cons z4_ .nil)))) (.cons (.int .i64 (.iapp 54 (.cons (.int .i64 xrykqhtk0_) (.cons z5_ .nil)))) (.cons (.int .i64 (.iapp 54 (.cons (.int .i64 xrykqhtk0_) (.cons z6_ .nil)))) (.cons (.bool (.tt false)) (.cons (.int .i64 (.lit 0)) (.cons (.int .i64 (.lit 0)) (.cons (.int .i64 (.lit 0)) (.cons (.int .i64 (.lit 0)) (.cons (.int .i64 (.lit 0)) .nil)))))))))))))) (.cons (.err xrykqhtk0_) .nil))), ⟨7, 0, 0, 0⟩, none⟩
theorem hnew_w : walk Tryz.prog 94 ⟨[yic_ckr], syG, [], [], []⟩ [] .v ykc_hnew ykc_hnew.n 3000 = some hnew_tree := by kernel_rfl
theorem hnew_h (rm rs rr gp gi rl ro : Int) : Hyp_ ykc_hnew hnew_tree (ykE [rm, rs, rr, gp, gi, rl, ro] [] [] []) := by
 intro hc hty
 simp only [ykc_hnew, Sy.holds, ykE, denV, denI, denB, denL, I2.den, VOp.den, List.getD_cons_zero, List.getD_cons_succ, Cst.den, syso, syse, syio, sybo, B2.ofInts, B2.denI, B2.denB, if_true, Bool.false_eq_true, if_false, Nat.div_one, Nat.mul_one, Nat.add_zero] at hc
 simp only [ykc_hnew, patsTyp, patTyp, patTypL, ykE, denV, denL, List.getD_cons_zero, List.getD_cons_succ, and_true, true_and] at hty
 unfold hnew_tree
 simp only [ykc_hnew, Tree.holds, Sy.holds, ykE, denV, denI, denB, denL, I2.den, VOp.den, List.getD_cons_zero, List.getD_cons_succ, Cst.den, syso, syse, syio, sybo, yki_hme, yki_gd, B2.ofInts, B2.denI, B2.denB, if_true, Bool.false_eq_true, if_false, Nat.div_one, Nat.mul_one, Nat.add_zero]
 refine ⟨?_, fun h0 => ?_⟩
 ·
  first
  | exact hc
  | omega
 refine ⟨fun h1 => ?_, fun h1 => ?_⟩
 refine ?a0; rotate_left
 refine ?a1; rotate_left
 case a0 | a1 =>
  first
  | (simp only [gdq_n h1]; done)
  | (simp only [gdq_n h1]; rfl)
  | (simp only [gdq_n h0]; rfl)
  | (simp only [gdq_n h0]; done)
  | (simp only [gdq_y (Decidable.of_not_not h0)]; done)
  | (simp only [gdq_y (Decidable.of_not_not h0), Decidable.of_not_not h0]; rfl)
  | (simp only [gdq_y (Decidable.of_not_not h1)]; done)
  | (simp only [gdq_y (Decidable.of_not_not h1), Decidable.of_not_not h1]; rfl)
  | skip
theorem ykg_hnew : ykc_hnew.Good Tryz.prog syG (ykE [] [] [] []) := good_of_walk (Γ := ⟨[yic_ckr], syG, [], [], []⟩) (ρ := ykE [] [] [] []) sym hnew_w rfl (fun _ _ _ _ => (ok_cons (Con.Good.env (Con.Good.up (Con.Good.up yig_ckr yjup rfl) ykup rfl) _ _ _ _) ok_nil)) hnew_h
def drop_tree : Tree :=
 (.ret xrykqhtk9_)
abbrev ykc_drop : Con := ⟨17, [xrykqhtk6_], (.tt true), xrykqhtk9_, ⟨12, 1, 0, 0⟩, none⟩
theorem drop_w : walk Tryz.prog 94 ⟨[], syG, [], [], []⟩ [] .v ykc_drop ykc_drop.n 3000 = some drop_tree := by kernel_rfl
theorem drop_h (rm rs rr gp gi rl ro hb ht he sf ss : Int) (sy : Bool) : Hyp_ ykc_drop drop_tree (ykE [rm, rs, rr, gp, gi, rl, ro, hb, ht, he, sf, ss] [sy] [] []) := by
 intro hc hty
 simp only [ykc_drop, Sy.holds, ykE, denV, denI, denB, denL, I2.den, VOp.den, List.getD_cons_zero, List.getD_cons_succ, Cst.den, syso, syse, syio, sybo, B2.ofInts, B2.denI, B2.denB, if_true, Bool.false_eq_true, if_false, Nat.div_one, Nat.mul_one, Nat.add_zero] at hc
 simp only [ykc_drop, patsTyp, patTyp, patTypL, ykE, denV, denL, List.getD_cons_zero, List.getD_cons_succ, and_true, true_and] at hty
 unfold drop_tree
 simp only [ykc_drop, Tree.holds, Sy.holds, ykE, denV, denI, denB, denL, I2.den, VOp.den, List.getD_cons_zero, List.getD_cons_succ, Cst.den, syso, syse, syio, sybo, B2.ofInts, B2.denI, B2.denB, if_true, Bool.false_eq_true, if_false, Nat.div_one, Nat.mul_one, Nat.add_zero]
 all_goals first | omega | rfl | (simp only [Value.tuple.injEq, Value.agg.injEq, Value.int.injEq, Value.bool.injEq, Array.mk.injEq, List.cons.injEq, true_and, and_true]; omega) | (refine congrArg Value.bool (Bool.eq_iff_iff.2 ?_); simp only [beq_iff_eq, decide_eq_true_eq, true_iff, false_iff, Bool.false_eq_true, Bool.not_eq_true', Bool.and_eq_true, Bool.or_eq_true, decide_eq_false_iff_not]; omega)
theorem ykg_drop : ykc_drop.Good Tryz.prog syG (ykE [] [] [] []) := good_of_walk (Γ := ⟨[], syG, [], [], []⟩) (ρ := ykE [] [] [] []) sym drop_w rfl (fun _ _ _ _ => ok_nil) drop_h
def set0_tree : Tree :=
 (.ret (.tup (.cons (.agg (.cons (.int .u32 (.lit 2147483648)) (.cons (.int .i64 (.lit 31)) (.cons (.int .i64 (.lit 100)) (.cons (.int .i64 (.lit 4)) (.cons (.int .i64 (.lit 1)) (.cons (.int .i64 (.lit 1000)) (.cons (.int .i64 (.lit 1099511627776)) (.cons (.bool (.tt true)) (.cons (.int .i64 (.lit 0)) (.cons (.int .i64 (.iapp 31 (.cons (.int .i64 (.lit 95)) (.cons (.int .i64 (.lit 105)) .nil)))) (.cons (.int .i64 (.iapp 1 (.cons (.int .i64 (sb_ (.lit 105) (.iapp 31 (.cons (.int .i64 (.lit 95)) (.cons (.int .i64 (.lit 105)) .nil))))) .nil))) (.cons (.int .i64 (.lit 0)) (.cons (.int .i64 (.lit 0)) .nil)))))))))))))) (.cons (.cst .nilI) .nil))))
abbrev ykc_set0 : Con := ⟨38, [xrykqhtk3_, (.int .i64 (.lit 0)), (.agg (.cons (.int .i64 (.lit 95)) (.cons (.int .i64 (.lit 105)) .nil)))], (.tt true), xrykqhtk5_, ⟨0, 0, 0, 0⟩, none⟩
theorem set0_w : walk Tryz.prog 94 ⟨[yhc_mid], syG, [], [], []⟩ [] .v ykc_set0 ykc_set0.n 3000 = some set0_tree := by kernel_rfl
theorem set0_h : Hyp_ ykc_set0 set0_tree (ykE [] [] [] []) := by
 intro hc hty
 simp only [ykc_set0, Sy.holds, ykE, denV, denI, denB, denL, I2.den, VOp.den, List.getD_cons_zero, List.getD_cons_succ, Cst.den, syso, syse, syio, sybo, B2.ofInts, B2.denI, B2.denB, if_true, Bool.false_eq_true, if_false, Nat.div_one, Nat.mul_one, Nat.add_zero] at hc
 simp only [ykc_set0, patsTyp, patTyp, patTypL, ykE, denV, denL, List.getD_cons_zero, List.getD_cons_succ, and_true, true_and] at hty
 unfold set0_tree
 simp only [ykc_set0, Tree.holds, Sy.holds, ykE, denV, denI, denB, denL, I2.den, VOp.den, List.getD_cons_zero, List.getD_cons_succ, Cst.den, syso, syse, syio, sybo, yki_sa, yki_mi, B2.ofInts, B2.denI, B2.denB, if_true, Bool.false_eq_true, if_false, Nat.div_one, Nat.mul_one, Nat.add_zero]
 simp only [h_0, h_1, h_7, h_8, h_9, h_10, h_s, h_m, h_t, h_u, h_r]
 first
 | exact True.intro
 | rfl
 | (exfalso; omega)
 | exact absurd True.intro (by assumption)
 | exact absurd h_r (by assumption)
 | exact absurd h_0 (by assumption)
 | exact absurd h_s (by assumption)
 | skip
theorem ykg_set0 : ykc_set0.Good Tryz.prog syG (ykE [] [] [] []) := good_of_walk (Γ := ⟨[yhc_mid], syG, [], [], []⟩) (ρ := ykE [] [] [] []) sym set0_w rfl (fun _ _ _ _ => (ok_cons (Con.Good.env (Con.Good.up (Con.Good.up (Con.Good.up yhg_mid yiup rfl) yjup rfl) ykup rfl) _ _ _ _) ok_nil)) set0_h
def new0_tree : Tree :=
 (.br (.not (eq_ (.iapp 42 (.cons xrykqhtk2_ .nil)) (.lit 0)))
 (.ret (.tup (.cons xrykqhtk4_ (.cons (.err (.iapp 42 (.cons xrykqhtk2_ .nil))) .nil))))
 (.ret (.tup (.cons xrykqhtk3_ (.cons (.cst .nilI) .nil)))))
abbrev ykc_new0 : Con := ⟨11, [xrykqhtk7_], (.tt true), (.tup (.cons xrykqhtk3_ (.cons (.err (.lit 0)) .nil))), ⟨0, 0, 0, 0⟩, none⟩
theorem new0_w : walk Tryz.prog 94 ⟨[yic_ckr], syG, [], [], []⟩ [] .v ykc_new0 ykc_new0.n 3000 = some new0_tree := by kernel_rfl
theorem new0_h : Hyp_ ykc_new0 new0_tree (ykE [] [] [] []) := by
 intro hc hty
 simp only [ykc_new0, Sy.holds, ykE, denV, denI, denB, denL, I2.den, VOp.den, List.getD_cons_zero, List.getD_cons_succ, Cst.den, syso, syse, syio, sybo, B2.ofInts, B2.denI, B2.denB, if_true, Bool.false_eq_true, if_false, Nat.div_one, Nat.mul_one, Nat.add_zero] at hc
 simp only [ykc_new0, patsTyp, patTyp, patTypL, ykE, denV, denL, List.getD_cons_zero, List.getD_cons_succ, and_true, true_and] at hty
 unfold new0_tree
 simp only [ykc_new0, Tree.holds, Sy.holds, ykE, denV, denI, denB, denL, I2.den, VOp.den, List.getD_cons_zero, List.getD_cons_succ, Cst.den, syso, syse, syio, sybo, yki_hme, B2.ofInts, B2.denI, B2.denB, if_true, Bool.false_eq_true, if_false, Nat.div_one, Nat.mul_one, Nat.add_zero]
 simp only [h_0, h_1, h_7, h_8, h_9, h_10, h_s, h_m, h_t, h_u, h_r]
 refine ⟨fun h0 => ?_, fun h0 => ?_⟩
 refine ?a0; rotate_left
 refine ?a1; rotate_left
 case a0 | a1 =>
  first
  | exact True.intro
  | rfl
  | (exfalso; omega)
  | exact absurd True.intro (by assumption)
  | exact absurd h_r (by assumption)
  | exact absurd h_0 (by assumption)
  | exact absurd h_s (by assumption)
  | skip
theorem ykg_new0 : ykc_new0.Good Tryz.prog syG (ykE [] [] [] []) := good_of_walk (Γ := ⟨[yic_ckr], syG, [], [], []⟩) (ρ := ykE [] [] [] []) sym new0_w rfl (fun _ _ _ _ => (ok_cons (Con.Good.env (Con.Good.up (Con.Good.up yig_ckr yjup rfl) ykup rfl) _ _ _ _) ok_nil)) new0_h
def sync0_tree : Tree :=
 (.br (.not (eq_ (.iapp 42 (.cons xrykqhtk2_ .nil)) (.lit 0)))
 (.ret (.tup (.cons xrykqhtk4_ (.cons (.iface 94 (.int .i64 (.lit 1))) .nil))))
 (.br (.not (eq_ (.iapp 30 (.cons (.int .i64 (.lit 95)) (.cons (.int .i64 (.lit 105)) .nil))) (.lit 0)))
 (.ret (.tup (.cons xrykqhtk4_ (.cons (.iface 94 (.int .i64 (.lit 1))) .nil))))
 (.ret xrykqhtk5_)))
abbrev ykc_sync0 : Con := ⟨9, [xrykqhtk3_, (.int .i64 (.lit 0)), (.agg (.cons (.int .i64 (.lit 95)) (.cons (.int .i64 (.lit 105)) .nil)))], (.tt true), xrykqhtk5_, ⟨0, 0, 0, 0⟩, none⟩
theorem sync0_w : walk Tryz.prog 94 ⟨[yic_hcheck, yhc_spck, ykc_set0], syG, [], [], []⟩ [] .v ykc_sync0 ykc_sync0.n 3000 = some sync0_tree := by kernel_rfl
theorem sync0_h : Hyp_ ykc_sync0 sync0_tree (ykE [] [] [] []) := by
 intro hc hty
 simp only [ykc_sync0, Sy.holds, ykE, denV, denI, denB, denL, I2.den, VOp.den, List.getD_cons_zero, List.getD_cons_succ, Cst.den, syso, syse, syio, sybo, B2.ofInts, B2.denI, B2.denB, if_true, Bool.false_eq_true, if_false, Nat.div_one, Nat.mul_one, Nat.add_zero] at hc
 simp only [ykc_sync0, patsTyp, patTyp, patTypL, ykE, denV, denL, List.getD_cons_zero, List.getD_cons_succ, and_true, true_and] at hty
 unfold sync0_tree
 simp only [ykc_sync0, Tree.holds, Sy.holds, ykE, denV, denI, denB, denL, I2.den, VOp.den, List.getD_cons_zero, List.getD_cons_succ, Cst.den, syso, syse, syio, sybo, yki_se, yki_hme, B2.ofInts, B2.denI, B2.denB, if_true, Bool.false_eq_true, if_false, Nat.div_one, Nat.mul_one, Nat.add_zero]
 simp only [h_0, h_1, h_7, h_8, h_9, h_10, h_s, h_m, h_t, h_u, h_r]
 refine ⟨fun h0 => ?_, fun h0 => ?_⟩
 refine ?a0; rotate_left
 refine ⟨fun h1 => ?_, fun h1 => ?_⟩
 refine ?a1; rotate_left
 refine ?a2; rotate_left
 case a0 | a1 | a2 =>
  first
  | exact True.intro
  | rfl
  | (exfalso; omega)
  | exact absurd True.intro (by assumption)
  | exact absurd h_r (by assumption)
  | exact absurd h_0 (by assumption)
  | exact absurd h_s (by assumption)
  | skip
theorem ykg_sync0 : ykc_sync0.Good Tryz.prog syG (ykE [] [] [] []) := good_of_walk (Γ := ⟨[yic_hcheck, yhc_spck, ykc_set0], syG, [], [], []⟩) (ρ := ykE [] [] [] []) sym sync0_w rfl (fun _ _ _ _ => (ok_cons (Con.Good.env (Con.Good.up (Con.Good.up yig_hcheck yjup rfl) ykup rfl) _ _ _ _) (ok_cons (Con.Good.env (Con.Good.up (Con.Good.up (Con.Good.up yhg_spck yiup rfl) yjup rfl) ykup rfl) _ _ _ _) (ok_cons (Con.Good.env ykg_set0 _ _ _ _) ok_nil)))) sync0_h
def sure18_tree : Tree :=
 (.br (eq_ (.iapp 46 (.cons xrykqhtk1_ (.cons (.int .i64 (.lit 10)) .nil))) (.lit 0))
 (.br (eq_ (.iapp 46 (.cons xrykqhtk2_ (.cons (.int .i64 (.lit 0)) .nil))) (.lit 13))
 (.br (eq_ (.iapp 47 (.cons xrykqhtk1_ (.cons (.int .i64 (.lit 10)) .nil))) (.lit 110))
 (.br (eq_ (.iapp 48 (.cons xrykqhtk1_ (.cons (.int .i64 (.lit 10)) .nil))) (.lit 10))
 (.br (eq_ (.iapp 46 (.cons xrykqhtk1_ (.cons (.int .i64 (.lit (-1))) .nil))) (.lit 10))
 (.ret (.bool (.tt true)))
 (.ret (.bool (.tt false))))
 (.ret (.bool (.tt false))))
 (.ret (.bool (.tt false))))
 (.ret (.bool (.tt false))))
 (.ret (.bool (.tt false))))
abbrev ykc_sure18 : Con := ⟨18, [], (.tt true), (.bool (.tt true)), ⟨0, 0, 0, 0⟩, none⟩
theorem sure18_w : walk Tryz.prog 94 ⟨[ykc_rule, ykc_new0, yic_now, ykc_sync0, ykc_num, ykc_drop], syG, [], [], []⟩ [] .v ykc_sure18 ykc_sure18.n 3000 = some sure18_tree := by kernel_rfl
theorem sure18_h : Hyp_ ykc_sure18 sure18_tree (ykE [] [] [] []) := by
 intro hc hty
 simp only [ykc_sure18, Sy.holds, ykE, denV, denI, denB, denL, I2.den, VOp.den, List.getD_cons_zero, List.getD_cons_succ, Cst.den, syso, syse, syio, sybo, B2.ofInts, B2.denI, B2.denB, if_true, Bool.false_eq_true, if_false, Nat.div_one, Nat.mul_one, Nat.add_zero] at hc
 simp only [ykc_sure18, patsTyp, patTyp, patTypL, ykE, denV, denL, List.getD_cons_zero, List.getD_cons_succ, and_true, true_and] at hty
 unfold sure18_tree
 simp only [ykc_sure18, Tree.holds, Sy.holds, ykE, denV, denI, denB, denL, I2.den, VOp.den, List.getD_cons_zero, List.getD_cons_succ, Cst.den, syso, syse, syio, sybo, yki_nwe, yki_nwt, yki_nwo, B2.ofInts, B2.denI, B2.denB, if_true, Bool.false_eq_true, if_false, Nat.div_one, Nat.mul_one, Nat.add_zero]
 simp only [h_0, h_1, h_7, h_8, h_9, h_10, h_s, h_m, h_t, h_u, h_r]
 refine ⟨fun h0 => ?_, fun h0 => ?_⟩
 refine ⟨fun h1 => ?_, fun h1 => ?_⟩
 refine ⟨fun h2 => ?_, fun h2 => ?_⟩
 refine ⟨fun h3 => ?_, fun h3 => ?_⟩
 refine ⟨fun h4 => ?_, fun h4 => ?_⟩
 refine ?a0; rotate_left
 refine ?a1; rotate_left
 refine ?a2; rotate_left
 refine ?a3; rotate_left
 refine ?a4; rotate_left
 refine ?a5; rotate_left
 case a0 | a1 | a2 | a3 | a4 | a5 =>
  first
  | exact True.intro
  | rfl
  | (exfalso; omega)
  | exact absurd True.intro (by assumption)
  | exact absurd h_r (by assumption)
  | exact absurd h_0 (by assumption)
  | exact absurd h_s (by assumption)
  | skip
theorem ykg_sure18 : ykc_sure18.Good Tryz.prog syG (ykE [] [] [] []) := good_of_walk (Γ := ⟨[ykc_rule, ykc_new0, yic_now, ykc_sync0, ykc_num, ykc_drop], syG, [], [], []⟩) (ρ := ykE [] [] [] []) sym sure18_w rfl (fun _ _ _ _ => (ok_cons (Con.Good.env ykg_rule _ _ _ _) (ok_cons (Con.Good.env ykg_new0 _ _ _ _) (ok_cons (Con.Good.env (Con.Good.up (Con.Good.up yig_now yjup rfl) ykup rfl) _ _ _ _) (ok_cons (Con.Good.env ykg_sync0 _ _ _ _) (ok_cons (Con.Good.env ykg_num _ _ _ _) (ok_cons (Con.Good.env ykg_drop _ _ _ _) ok_nil))))))) sure18_h
end Go.Proofs.YtjcgmdgkdkfdpaaGreatDoor
