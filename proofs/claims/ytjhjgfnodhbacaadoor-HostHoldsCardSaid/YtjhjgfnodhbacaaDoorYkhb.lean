/-
  Layer 18 by the second engine: what must come, the laws.
-/
import Derived.Test.YtjhjgfnodhbacaaDoorSychb
import Derived.Test.YtjhjgfnodhbacaaDoorYjhb
import Derived.Test.YtjhjgfnodhbacaaDoorE00hb
import Derived.Test.YtjhjgfnodhbacaaDoorNumhb
namespace Go.Proofs.YtjhjgfnodhbacaaDoor
open Go.RowKit Go.Extern.Stop Go.Stop Go.Extern Go.Proofs.YtjhjgfnodhbacaaDoor.Sy
set_option linter.unusedVariables false
set_option linter.unusedSimpArgs false
theorem h_r : hoL (Sy.rows (.tuple #[.int .u32 2147483648, .int .i64 31, .int .i64 100, .int .i64 4, .int .i64 1, .int .i64 1000, .int .i64 1099511627776, .bool false, .int .i64 0, .int .i64 0, .int .i64 0, .int .i64 0, .int .i64 0])) = 0 := by decide
theorem num18_any (n : Int) (w : World) (hg : w.cell? ⟨0, 0, none⟩ = some asHandle) : Calls Tryd.prog 59 #[errVal 229 n] w fun e w' => e = .returned (.int .i64 n) ∧ Below w.heap.size w w' := by
  unfold errVal
  split
  · rename_i h; subst h; exact num18_nil _
  · exact num18_err _ _ hg
theorem h_0 : hoL (Sy.rows (.tuple #[.int .u32 2147483648, .int .i64 31, .int .i64 100, .int .i64 4, .int .i64 1, .int .i64 1000, .int .i64 1099511627776, .bool false, .int .i64 0, .int .i64 0, .int .i64 0, .int .i64 0, .int .i64 0])) = 0 := by decide
theorem h_1 : nwEl (Sy.rows (.tuple #[.int .u32 2147483648, .int .i64 31, .int .i64 100, .int .i64 4, .int .i64 1, .int .i64 1000, .int .i64 1099511627776, .bool false, .int .i64 0, .int .i64 0, .int .i64 0, .int .i64 0, .int .i64 0])) 0 = 13 := by decide
theorem h_7 : nwEl (Sy.rows (.tuple #[.int .u32 2147483648, .int .i64 31, .int .i64 100, .int .i64 4, .int .i64 1, .int .i64 1000, .int .i64 1099511627776, .bool true, .int .i64 0, .int .i64 100, .int .i64 5, .int .i64 0, .int .i64 0])) 10 = 0 := by decide
theorem h_8 : nwTl (Sy.rows (.tuple #[.int .u32 2147483648, .int .i64 31, .int .i64 100, .int .i64 4, .int .i64 1, .int .i64 1000, .int .i64 1099511627776, .bool true, .int .i64 0, .int .i64 100, .int .i64 5, .int .i64 0, .int .i64 0])) 10 = 110 := by decide
theorem h_9 : nwOl (Sy.rows (.tuple #[.int .u32 2147483648, .int .i64 31, .int .i64 100, .int .i64 4, .int .i64 1, .int .i64 1000, .int .i64 1099511627776, .bool true, .int .i64 0, .int .i64 100, .int .i64 5, .int .i64 0, .int .i64 0])) 10 = 10 := by decide
theorem h_10 : nwEl (Sy.rows (.tuple #[.int .u32 2147483648, .int .i64 31, .int .i64 100, .int .i64 4, .int .i64 1, .int .i64 1000, .int .i64 1099511627776, .bool true, .int .i64 0, .int .i64 100, .int .i64 5, .int .i64 0, .int .i64 0])) (-1) = 10 := by decide
theorem h_s : spI 95 105 = 0 := by decide
theorem h_m : miI 95 105 = 100 := by decide
theorem h_t : satE (105 - 100) = 5 := by decide
theorem h_u : satE 5 = 5 := by decide
noncomputable def ykI : Nat → List Value → Int
  | i, l => yjI i l
noncomputable def ykB : Nat → List Value → Bool
  | i, l => yjB i l
noncomputable def ykV : Nat → List Value → Value
  | i, l => yjV i l
noncomputable abbrev ykE (iv : List Int) (bv : List Bool) (vv : List Value) (sv : List ByteArray) : Env := { iv := iv, bv := bv, vv := vv, sv := sv, fi := ykI, fb := ykB, fv := ykV, et := 229 }
set_option maxHeartbeats 8000000 in
theorem ykup : Agree 57 5 2 (yjE [] [] [] []) (ykE [] [] [] []) := ⟨rfl, (by
    intro f hf
    funext l
    show ykI f l = yjI f l
    unfold ykI
    split <;> first | rfl | omega), (by
    intro f hf
    funext l
    show ykB f l = yjB f l
    unfold ykB
    split <;> first | rfl | omega), (by
    intro f hf
    funext l
    show ykV f l = yjV f l
    unfold ykV
    split <;> first | rfl | omega)⟩
theorem yki_sa (k1 : IntKind) (a : Int) : ykI 1 [.int k1 a] = satE a := rfl
theorem yki_se (k1 : IntKind) (a : Int) (k2 : IntKind) (b : Int) : ykI 30 [.int k1 a, .int k2 b] = spI a b := rfl
theorem yki_mi (k1 : IntKind) (a : Int) (k2 : IntKind) (b : Int) : ykI 31 [.int k1 a, .int k2 b] = miI a b := rfl
theorem yki_hme (l : Value) : ykI 42 [l] = hoL (rows l) := rfl
theorem yki_nwe (l : Value) (k1 : IntKind) (k : Int) : ykI 46 [l, .int k1 k] = nwEl (rows l) k := rfl
theorem yki_nwt (l : Value) (k1 : IntKind) (k : Int) : ykI 47 [l, .int k1 k] = nwTl (rows l) k := rfl
theorem yki_nwo (l : Value) (k1 : IntKind) (k : Int) : ykI 48 [l, .int k1 k] = nwOl (rows l) k := rfl
abbrev ykc_num : Con := ⟨59, [(.err (.var 0))], (.tt true), (.int .i64 (.var 0)), ⟨1, 0, 0, 0⟩, none⟩
theorem ykg_num : ykc_num.Good Tryd.prog syG (ykE [] [] [] []) := good_flat rfl rfl rfl (by
  intro n hc β ok w hG
  have hc' := hc
  simp only [Tree.holds, Sy.holds, AllN, Env.more, ykE, List.cons_append, List.nil_append, List.append_nil, denV, denI, denB, denL, I2.den, VOp.den, List.getD_cons_zero, List.getD_cons_succ, Cst.den, syso, syse, syio, sybo, List.map_nil, List.map_cons, B2.ofInts, B2.denI, B2.denB, if_true, Bool.false_eq_true, if_false, Nat.div_one, Nat.mul_one, Nat.add_zero, holds] at hc
  exact num18_any n w (hG _ (List.mem_singleton.2 rfl)).2.2)
def rule_tree : Tree :=
 (.ret (.agg (.cons (.int .u32 (.lit (2147483648))) (.cons (.int .i64 (.lit (31))) (.cons (.int .i64 (.lit (100))) (.cons (.int .i64 (.lit (4))) (.cons (.int .i64 (.lit (1))) (.cons (.int .i64 (.lit (1000))) (.cons (.int .i64 (.lit (1099511627776))) .nil)))))))))
abbrev ykc_rule : Con := ⟨54, [], (.tt true), (.agg (.cons (.int .u32 (.lit (2147483648))) (.cons (.int .i64 (.lit (31))) (.cons (.int .i64 (.lit (100))) (.cons (.int .i64 (.lit (4))) (.cons (.int .i64 (.lit (1))) (.cons (.int .i64 (.lit (1000))) (.cons (.int .i64 (.lit (1099511627776))) .nil)))))))), ⟨0, 0, 0, 0⟩, none⟩
theorem rule_w : walk Tryd.prog 229 ⟨[], syG, [], [], []⟩ [] .v ykc_rule ykc_rule.n 3000 = some rule_tree := by kernel_rfl
theorem rule_h  (hc : holds (ykE [] [] [] []) (.tt true)) (hty : patsTyp (ykE [] [] [] []) []) : rule_tree.holds (fun v_ => v_ = denV (ykE [] [] [] []) b0 (.agg (.cons (.int .u32 (.lit (2147483648))) (.cons (.int .i64 (.lit (31))) (.cons (.int .i64 (.lit (100))) (.cons (.int .i64 (.lit (4))) (.cons (.int .i64 (.lit (1))) (.cons (.int .i64 (.lit (1000))) (.cons (.int .i64 (.lit (1099511627776))) .nil))))))))) (ykE [] [] [] []) := by
  simp only [Tree.holds, Sy.holds, AllN, Env.more, ykE, List.cons_append, List.nil_append, List.append_nil, denV, denI, denB, denL, I2.den, VOp.den, List.getD_cons_zero, List.getD_cons_succ, Cst.den, syso, syse, syio, sybo, List.map_nil, List.map_cons, B2.ofInts, B2.denI, B2.denB, if_true, Bool.false_eq_true, if_false, Nat.div_one, Nat.mul_one, Nat.add_zero, holds] at hc
  simp only [patsTyp, patTyp, patTypL, ykE, denV, denL, List.getD_cons_zero, List.getD_cons_succ, and_true, true_and] at hty
  unfold rule_tree
  simp only [Tree.holds, Sy.holds, AllN, Env.more, ykE, List.cons_append, List.nil_append, List.append_nil, denV, denI, denB, denL, I2.den, VOp.den, List.getD_cons_zero, List.getD_cons_succ, Cst.den, syso, syse, syio, sybo, List.map_nil, List.map_cons, B2.ofInts, B2.denI, B2.denB, if_true, Bool.false_eq_true, if_false, Nat.div_one, Nat.mul_one, Nat.add_zero]
  all_goals first | omega | rfl | (simp only [Value.tuple.injEq, Value.agg.injEq, Value.int.injEq, Value.bool.injEq, Array.mk.injEq, List.cons.injEq, true_and, and_true]; omega) | (refine congrArg Value.bool (Bool.eq_iff_iff.2 ?_); simp only [beq_iff_eq, decide_eq_true_eq, true_iff, false_iff, Bool.false_eq_true, Bool.not_eq_true', Bool.and_eq_true, Bool.or_eq_true, decide_eq_false_iff_not]; omega)
theorem ykg_rule : ykc_rule.Good Tryd.prog syG (ykE [] [] [] []) := good_of_walk (Γ := ⟨[], syG, [], [], []⟩) (ρ := ykE [] [] [] []) sym rule_w rfl (fun _ _ _ _ => ok_nil) (fun hc hty => rule_h  hc hty)
def drop_tree : Tree :=
 (.ret (.agg (.cons (.int .u32 (.var 0)) (.cons (.int .i64 (.var 1)) (.cons (.int .i64 (.var 2)) (.cons (.int .i64 (.var 3)) (.cons (.int .i64 (.var 4)) (.cons (.int .i64 (.var 5)) (.cons (.int .i64 (.var 6)) (.cons (.bool (.tt false)) (.cons (.int .i64 (.var 7)) (.cons (.int .i64 (.var 8)) (.cons (.int .i64 (.var 9)) (.cons (.int .i64 (.var 10)) (.cons (.int .i64 (.var 11)) .nil)))))))))))))))
abbrev ykc_drop : Con := ⟨62, [(.agg (.cons (.int .u32 (.var 0)) (.cons (.int .i64 (.var 1)) (.cons (.int .i64 (.var 2)) (.cons (.int .i64 (.var 3)) (.cons (.int .i64 (.var 4)) (.cons (.int .i64 (.var 5)) (.cons (.int .i64 (.var 6)) (.cons (.bool (.bvar 0)) (.cons (.int .i64 (.var 7)) (.cons (.int .i64 (.var 8)) (.cons (.int .i64 (.var 9)) (.cons (.int .i64 (.var 10)) (.cons (.int .i64 (.var 11)) .nil))))))))))))))], (.tt true), (.agg (.cons (.int .u32 (.var 0)) (.cons (.int .i64 (.var 1)) (.cons (.int .i64 (.var 2)) (.cons (.int .i64 (.var 3)) (.cons (.int .i64 (.var 4)) (.cons (.int .i64 (.var 5)) (.cons (.int .i64 (.var 6)) (.cons (.bool (.tt false)) (.cons (.int .i64 (.var 7)) (.cons (.int .i64 (.var 8)) (.cons (.int .i64 (.var 9)) (.cons (.int .i64 (.var 10)) (.cons (.int .i64 (.var 11)) .nil)))))))))))))), ⟨12, 1, 0, 0⟩, none⟩
theorem drop_w : walk Tryd.prog 229 ⟨[], syG, [], [], []⟩ [] .v ykc_drop ykc_drop.n 3000 = some drop_tree := by kernel_rfl
theorem drop_h (rm : Int) (rs : Int) (rr : Int) (gp : Int) (gi : Int) (rl : Int) (ro : Int) (hb : Int) (ht : Int) (he : Int) (sf : Int) (ss : Int) (sy : Bool) (hc : holds (ykE [rm, rs, rr, gp, gi, rl, ro, hb, ht, he, sf, ss] [sy] [] []) (.tt true)) (hty : patsTyp (ykE [rm, rs, rr, gp, gi, rl, ro, hb, ht, he, sf, ss] [sy] [] []) [(.agg (.cons (.int .u32 (.var 0)) (.cons (.int .i64 (.var 1)) (.cons (.int .i64 (.var 2)) (.cons (.int .i64 (.var 3)) (.cons (.int .i64 (.var 4)) (.cons (.int .i64 (.var 5)) (.cons (.int .i64 (.var 6)) (.cons (.bool (.bvar 0)) (.cons (.int .i64 (.var 7)) (.cons (.int .i64 (.var 8)) (.cons (.int .i64 (.var 9)) (.cons (.int .i64 (.var 10)) (.cons (.int .i64 (.var 11)) .nil))))))))))))))]) : drop_tree.holds (fun v_ => v_ = denV (ykE [rm, rs, rr, gp, gi, rl, ro, hb, ht, he, sf, ss] [sy] [] []) b0 (.agg (.cons (.int .u32 (.var 0)) (.cons (.int .i64 (.var 1)) (.cons (.int .i64 (.var 2)) (.cons (.int .i64 (.var 3)) (.cons (.int .i64 (.var 4)) (.cons (.int .i64 (.var 5)) (.cons (.int .i64 (.var 6)) (.cons (.bool (.tt false)) (.cons (.int .i64 (.var 7)) (.cons (.int .i64 (.var 8)) (.cons (.int .i64 (.var 9)) (.cons (.int .i64 (.var 10)) (.cons (.int .i64 (.var 11)) .nil))))))))))))))) (ykE [rm, rs, rr, gp, gi, rl, ro, hb, ht, he, sf, ss] [sy] [] []) := by
  simp only [Tree.holds, Sy.holds, AllN, Env.more, ykE, List.cons_append, List.nil_append, List.append_nil, denV, denI, denB, denL, I2.den, VOp.den, List.getD_cons_zero, List.getD_cons_succ, Cst.den, syso, syse, syio, sybo, List.map_nil, List.map_cons, B2.ofInts, B2.denI, B2.denB, if_true, Bool.false_eq_true, if_false, Nat.div_one, Nat.mul_one, Nat.add_zero, holds] at hc
  simp only [patsTyp, patTyp, patTypL, ykE, denV, denL, List.getD_cons_zero, List.getD_cons_succ, and_true, true_and] at hty
  unfold drop_tree
  simp only [Tree.holds, Sy.holds, AllN, Env.more, ykE, List.cons_append, List.nil_append, List.append_nil, denV, denI, denB, denL, I2.den, VOp.den, List.getD_cons_zero, List.getD_cons_succ, Cst.den, syso, syse, syio, sybo, List.map_nil, List.map_cons, B2.ofInts, B2.denI, B2.denB, if_true, Bool.false_eq_true, if_false, Nat.div_one, Nat.mul_one, Nat.add_zero]
  all_goals first | omega | rfl | (simp only [Value.tuple.injEq, Value.agg.injEq, Value.int.injEq, Value.bool.injEq, Array.mk.injEq, List.cons.injEq, true_and, and_true]; omega) | (refine congrArg Value.bool (Bool.eq_iff_iff.2 ?_); simp only [beq_iff_eq, decide_eq_true_eq, true_iff, false_iff, Bool.false_eq_true, Bool.not_eq_true', Bool.and_eq_true, Bool.or_eq_true, decide_eq_false_iff_not]; omega)
theorem ykg_drop : ykc_drop.Good Tryd.prog syG (ykE [] [] [] []) := good_of_walk (Γ := ⟨[], syG, [], [], []⟩) (ρ := ykE [] [] [] []) sym drop_w rfl (fun _ _ _ _ => ok_nil) (fun rm rs rr gp gi rl ro hb ht he sf ss sy hc hty => drop_h rm rs rr gp gi rl ro hb ht he sf ss sy hc hty)
def set0_tree : Tree :=
 (.ret (.tup (.cons (.agg (.cons (.int .u32 (.lit (2147483648))) (.cons (.int .i64 (.lit (31))) (.cons (.int .i64 (.lit (100))) (.cons (.int .i64 (.lit (4))) (.cons (.int .i64 (.lit (1))) (.cons (.int .i64 (.lit (1000))) (.cons (.int .i64 (.lit (1099511627776))) (.cons (.bool (.tt true)) (.cons (.int .i64 (.lit (0))) (.cons (.int .i64 (.iapp 31 (.cons (.int .i64 (.lit (95))) (.cons (.int .i64 (.lit (105))) .nil)))) (.cons (.int .i64 (.iapp 1 (.cons (.int .i64 (.i2 .sub (.lit (105)) (.iapp 31 (.cons (.int .i64 (.lit (95))) (.cons (.int .i64 (.lit (105))) .nil))))) .nil))) (.cons (.int .i64 (.lit (0))) (.cons (.int .i64 (.lit (0))) .nil)))))))))))))) (.cons (.cst .nilI) .nil))))
abbrev ykc_set0 : Con := ⟨145, [(.agg (.cons (.int .u32 (.lit (2147483648))) (.cons (.int .i64 (.lit (31))) (.cons (.int .i64 (.lit (100))) (.cons (.int .i64 (.lit (4))) (.cons (.int .i64 (.lit (1))) (.cons (.int .i64 (.lit (1000))) (.cons (.int .i64 (.lit (1099511627776))) (.cons (.bool (.tt false)) (.cons (.int .i64 (.lit (0))) (.cons (.int .i64 (.lit (0))) (.cons (.int .i64 (.lit (0))) (.cons (.int .i64 (.lit (0))) (.cons (.int .i64 (.lit (0))) .nil)))))))))))))), (.int .i64 (.lit (0))), (.agg (.cons (.int .i64 (.lit (95))) (.cons (.int .i64 (.lit (105))) .nil)))], (.tt true), (.tup (.cons (.agg (.cons (.int .u32 (.lit (2147483648))) (.cons (.int .i64 (.lit (31))) (.cons (.int .i64 (.lit (100))) (.cons (.int .i64 (.lit (4))) (.cons (.int .i64 (.lit (1))) (.cons (.int .i64 (.lit (1000))) (.cons (.int .i64 (.lit (1099511627776))) (.cons (.bool (.tt true)) (.cons (.int .i64 (.lit (0))) (.cons (.int .i64 (.lit (100))) (.cons (.int .i64 (.lit (5))) (.cons (.int .i64 (.lit (0))) (.cons (.int .i64 (.lit (0))) .nil)))))))))))))) (.cons (.err (.lit (0))) .nil))), ⟨0, 0, 0, 0⟩, none⟩
theorem set0_w : walk Tryd.prog 229 ⟨[yhc_mid], syG, [], [], []⟩ [] .v ykc_set0 ykc_set0.n 3000 = some set0_tree := by kernel_rfl
theorem set0_h  (hc : holds (ykE [] [] [] []) (.tt true)) (hty : patsTyp (ykE [] [] [] []) [(.agg (.cons (.int .u32 (.lit (2147483648))) (.cons (.int .i64 (.lit (31))) (.cons (.int .i64 (.lit (100))) (.cons (.int .i64 (.lit (4))) (.cons (.int .i64 (.lit (1))) (.cons (.int .i64 (.lit (1000))) (.cons (.int .i64 (.lit (1099511627776))) (.cons (.bool (.tt false)) (.cons (.int .i64 (.lit (0))) (.cons (.int .i64 (.lit (0))) (.cons (.int .i64 (.lit (0))) (.cons (.int .i64 (.lit (0))) (.cons (.int .i64 (.lit (0))) .nil)))))))))))))), (.int .i64 (.lit (0))), (.agg (.cons (.int .i64 (.lit (95))) (.cons (.int .i64 (.lit (105))) .nil)))]) : set0_tree.holds (fun v_ => v_ = denV (ykE [] [] [] []) b0 (.tup (.cons (.agg (.cons (.int .u32 (.lit (2147483648))) (.cons (.int .i64 (.lit (31))) (.cons (.int .i64 (.lit (100))) (.cons (.int .i64 (.lit (4))) (.cons (.int .i64 (.lit (1))) (.cons (.int .i64 (.lit (1000))) (.cons (.int .i64 (.lit (1099511627776))) (.cons (.bool (.tt true)) (.cons (.int .i64 (.lit (0))) (.cons (.int .i64 (.lit (100))) (.cons (.int .i64 (.lit (5))) (.cons (.int .i64 (.lit (0))) (.cons (.int .i64 (.lit (0))) .nil)))))))))))))) (.cons (.err (.lit (0))) .nil)))) (ykE [] [] [] []) := by
  simp only [Tree.holds, Sy.holds, AllN, Env.more, ykE, List.cons_append, List.nil_append, List.append_nil, denV, denI, denB, denL, I2.den, VOp.den, List.getD_cons_zero, List.getD_cons_succ, Cst.den, syso, syse, syio, sybo, List.map_nil, List.map_cons, B2.ofInts, B2.denI, B2.denB, if_true, Bool.false_eq_true, if_false, Nat.div_one, Nat.mul_one, Nat.add_zero, holds] at hc
  simp only [patsTyp, patTyp, patTypL, ykE, denV, denL, List.getD_cons_zero, List.getD_cons_succ, and_true, true_and] at hty
  unfold set0_tree
  simp only [Tree.holds, Sy.holds, AllN, Env.more, ykE, List.cons_append, List.nil_append, List.append_nil, denV, denI, denB, denL, I2.den, VOp.den, List.getD_cons_zero, List.getD_cons_succ, Cst.den, syso, syse, syio, sybo, yki_sa, yki_mi, List.map_nil, List.map_cons, B2.ofInts, B2.denI, B2.denB, if_true, Bool.false_eq_true, if_false, Nat.div_one, Nat.mul_one, Nat.add_zero]
  simp only [h_0, h_1, h_7, h_8, h_9, h_10, h_s, h_m, h_t, h_u, h_r]
  first
  | exact True.intro
  | rfl
  | (exfalso; omega)
  | exact absurd True.intro (by assumption)
  | exact absurd h_r (by assumption)
  | exact absurd h_0 (by assumption)
  | exact absurd h_s (by assumption)
  | skip
theorem ykg_set0 : ykc_set0.Good Tryd.prog syG (ykE [] [] [] []) := good_of_walk (Γ := ⟨[yhc_mid], syG, [], [], []⟩) (ρ := ykE [] [] [] []) sym set0_w rfl (fun _ _ _ _ => (ok_cons (Con.Good.env (Con.Good.up (Con.Good.up (Con.Good.up yhg_mid yiup rfl) yjup rfl) ykup rfl) _ _ _ _) ok_nil)) (fun hc hty => set0_h  hc hty)
def new0_tree : Tree :=
 (.br (.not (.b2 .eq (.iapp 42 (.cons (.tup (.cons (.int .u32 (.lit (2147483648))) (.cons (.int .i64 (.lit (31))) (.cons (.int .i64 (.lit (100))) (.cons (.int .i64 (.lit (4))) (.cons (.int .i64 (.lit (1))) (.cons (.int .i64 (.lit (1000))) (.cons (.int .i64 (.lit (1099511627776))) (.cons (.bool (.tt false)) (.cons (.int .i64 (.lit (0))) (.cons (.int .i64 (.lit (0))) (.cons (.int .i64 (.lit (0))) (.cons (.int .i64 (.lit (0))) (.cons (.int .i64 (.lit (0))) .nil)))))))))))))) .nil)) (.lit (0))))
 (.ret (.tup (.cons (.agg (.cons (.int .u32 (.lit (0))) (.cons (.int .i64 (.lit (0))) (.cons (.int .i64 (.lit (0))) (.cons (.int .i64 (.lit (0))) (.cons (.int .i64 (.lit (0))) (.cons (.int .i64 (.lit (0))) (.cons (.int .i64 (.lit (0))) (.cons (.bool (.tt false)) (.cons (.int .i64 (.lit (0))) (.cons (.int .i64 (.lit (0))) (.cons (.int .i64 (.lit (0))) (.cons (.int .i64 (.lit (0))) (.cons (.int .i64 (.lit (0))) .nil)))))))))))))) (.cons (.err (.iapp 42 (.cons (.tup (.cons (.int .u32 (.lit (2147483648))) (.cons (.int .i64 (.lit (31))) (.cons (.int .i64 (.lit (100))) (.cons (.int .i64 (.lit (4))) (.cons (.int .i64 (.lit (1))) (.cons (.int .i64 (.lit (1000))) (.cons (.int .i64 (.lit (1099511627776))) (.cons (.bool (.tt false)) (.cons (.int .i64 (.lit (0))) (.cons (.int .i64 (.lit (0))) (.cons (.int .i64 (.lit (0))) (.cons (.int .i64 (.lit (0))) (.cons (.int .i64 (.lit (0))) .nil)))))))))))))) .nil))) .nil))))
 (.ret (.tup (.cons (.agg (.cons (.int .u32 (.lit (2147483648))) (.cons (.int .i64 (.lit (31))) (.cons (.int .i64 (.lit (100))) (.cons (.int .i64 (.lit (4))) (.cons (.int .i64 (.lit (1))) (.cons (.int .i64 (.lit (1000))) (.cons (.int .i64 (.lit (1099511627776))) (.cons (.bool (.tt false)) (.cons (.int .i64 (.lit (0))) (.cons (.int .i64 (.lit (0))) (.cons (.int .i64 (.lit (0))) (.cons (.int .i64 (.lit (0))) (.cons (.int .i64 (.lit (0))) .nil)))))))))))))) (.cons (.cst .nilI) .nil)))))
abbrev ykc_new0 : Con := ⟨55, [(.agg (.cons (.int .u32 (.lit (2147483648))) (.cons (.int .i64 (.lit (31))) (.cons (.int .i64 (.lit (100))) (.cons (.int .i64 (.lit (4))) (.cons (.int .i64 (.lit (1))) (.cons (.int .i64 (.lit (1000))) (.cons (.int .i64 (.lit (1099511627776))) .nil))))))))], (.tt true), (.tup (.cons (.agg (.cons (.int .u32 (.lit (2147483648))) (.cons (.int .i64 (.lit (31))) (.cons (.int .i64 (.lit (100))) (.cons (.int .i64 (.lit (4))) (.cons (.int .i64 (.lit (1))) (.cons (.int .i64 (.lit (1000))) (.cons (.int .i64 (.lit (1099511627776))) (.cons (.bool (.tt false)) (.cons (.int .i64 (.lit (0))) (.cons (.int .i64 (.lit (0))) (.cons (.int .i64 (.lit (0))) (.cons (.int .i64 (.lit (0))) (.cons (.int .i64 (.lit (0))) .nil)))))))))))))) (.cons (.err (.lit (0))) .nil))), ⟨0, 0, 0, 0⟩, none⟩
theorem new0_w : walk Tryd.prog 229 ⟨[yic_ckr], syG, [], [], []⟩ [] .v ykc_new0 ykc_new0.n 3000 = some new0_tree := by kernel_rfl
theorem new0_h  (hc : holds (ykE [] [] [] []) (.tt true)) (hty : patsTyp (ykE [] [] [] []) [(.agg (.cons (.int .u32 (.lit (2147483648))) (.cons (.int .i64 (.lit (31))) (.cons (.int .i64 (.lit (100))) (.cons (.int .i64 (.lit (4))) (.cons (.int .i64 (.lit (1))) (.cons (.int .i64 (.lit (1000))) (.cons (.int .i64 (.lit (1099511627776))) .nil))))))))]) : new0_tree.holds (fun v_ => v_ = denV (ykE [] [] [] []) b0 (.tup (.cons (.agg (.cons (.int .u32 (.lit (2147483648))) (.cons (.int .i64 (.lit (31))) (.cons (.int .i64 (.lit (100))) (.cons (.int .i64 (.lit (4))) (.cons (.int .i64 (.lit (1))) (.cons (.int .i64 (.lit (1000))) (.cons (.int .i64 (.lit (1099511627776))) (.cons (.bool (.tt false)) (.cons (.int .i64 (.lit (0))) (.cons (.int .i64 (.lit (0))) (.cons (.int .i64 (.lit (0))) (.cons (.int .i64 (.lit (0))) (.cons (.int .i64 (.lit (0))) .nil)))))))))))))) (.cons (.err (.lit (0))) .nil)))) (ykE [] [] [] []) := by
  simp only [Tree.holds, Sy.holds, AllN, Env.more, ykE, List.cons_append, List.nil_append, List.append_nil, denV, denI, denB, denL, I2.den, VOp.den, List.getD_cons_zero, List.getD_cons_succ, Cst.den, syso, syse, syio, sybo, List.map_nil, List.map_cons, B2.ofInts, B2.denI, B2.denB, if_true, Bool.false_eq_true, if_false, Nat.div_one, Nat.mul_one, Nat.add_zero, holds] at hc
  simp only [patsTyp, patTyp, patTypL, ykE, denV, denL, List.getD_cons_zero, List.getD_cons_succ, and_true, true_and] at hty
  unfold new0_tree
  simp only [Tree.holds, Sy.holds, AllN, Env.more, ykE, List.cons_append, List.nil_append, List.append_nil, denV, denI, denB, denL, I2.den, VOp.den, List.getD_cons_zero, List.getD_cons_succ, Cst.den, syso, syse, syio, sybo, yki_hme, List.map_nil, List.map_cons, B2.ofInts, B2.denI, B2.denB, if_true, Bool.false_eq_true, if_false, Nat.div_one, Nat.mul_one, Nat.add_zero]
  simp only [h_0, h_1, h_7, h_8, h_9, h_10, h_s, h_m, h_t, h_u, h_r]
  refine ⟨fun h0 => ?_, fun h0 => ?_⟩
  ·
   first
   | exact True.intro
   | rfl
   | (exfalso; omega)
   | exact absurd True.intro (by assumption)
   | exact absurd h_r (by assumption)
   | exact absurd h_0 (by assumption)
   | exact absurd h_s (by assumption)
   | skip
  ·
   first
   | exact True.intro
   | rfl
   | (exfalso; omega)
   | exact absurd True.intro (by assumption)
   | exact absurd h_r (by assumption)
   | exact absurd h_0 (by assumption)
   | exact absurd h_s (by assumption)
   | skip
theorem ykg_new0 : ykc_new0.Good Tryd.prog syG (ykE [] [] [] []) := good_of_walk (Γ := ⟨[yic_ckr], syG, [], [], []⟩) (ρ := ykE [] [] [] []) sym new0_w rfl (fun _ _ _ _ => (ok_cons (Con.Good.env (Con.Good.up (Con.Good.up yig_ckr yjup rfl) ykup rfl) _ _ _ _) ok_nil)) (fun hc hty => new0_h  hc hty)
def sync0_tree : Tree :=
 (.br (.not (.b2 .eq (.iapp 42 (.cons (.tup (.cons (.int .u32 (.lit (2147483648))) (.cons (.int .i64 (.lit (31))) (.cons (.int .i64 (.lit (100))) (.cons (.int .i64 (.lit (4))) (.cons (.int .i64 (.lit (1))) (.cons (.int .i64 (.lit (1000))) (.cons (.int .i64 (.lit (1099511627776))) (.cons (.bool (.tt false)) (.cons (.int .i64 (.lit (0))) (.cons (.int .i64 (.lit (0))) (.cons (.int .i64 (.lit (0))) (.cons (.int .i64 (.lit (0))) (.cons (.int .i64 (.lit (0))) .nil)))))))))))))) .nil)) (.lit (0))))
 (.ret (.tup (.cons (.agg (.cons (.int .u32 (.lit (0))) (.cons (.int .i64 (.lit (0))) (.cons (.int .i64 (.lit (0))) (.cons (.int .i64 (.lit (0))) (.cons (.int .i64 (.lit (0))) (.cons (.int .i64 (.lit (0))) (.cons (.int .i64 (.lit (0))) (.cons (.bool (.tt false)) (.cons (.int .i64 (.lit (0))) (.cons (.int .i64 (.lit (0))) (.cons (.int .i64 (.lit (0))) (.cons (.int .i64 (.lit (0))) (.cons (.int .i64 (.lit (0))) .nil)))))))))))))) (.cons (.iface 229 (.int .i64 (.lit (1)))) .nil))))
 (.br (.not (.b2 .eq (.iapp 30 (.cons (.int .i64 (.lit (95))) (.cons (.int .i64 (.lit (105))) .nil))) (.lit (0))))
 (.ret (.tup (.cons (.agg (.cons (.int .u32 (.lit (0))) (.cons (.int .i64 (.lit (0))) (.cons (.int .i64 (.lit (0))) (.cons (.int .i64 (.lit (0))) (.cons (.int .i64 (.lit (0))) (.cons (.int .i64 (.lit (0))) (.cons (.int .i64 (.lit (0))) (.cons (.bool (.tt false)) (.cons (.int .i64 (.lit (0))) (.cons (.int .i64 (.lit (0))) (.cons (.int .i64 (.lit (0))) (.cons (.int .i64 (.lit (0))) (.cons (.int .i64 (.lit (0))) .nil)))))))))))))) (.cons (.iface 229 (.int .i64 (.lit (1)))) .nil))))
 (.ret (.tup (.cons (.agg (.cons (.int .u32 (.lit (2147483648))) (.cons (.int .i64 (.lit (31))) (.cons (.int .i64 (.lit (100))) (.cons (.int .i64 (.lit (4))) (.cons (.int .i64 (.lit (1))) (.cons (.int .i64 (.lit (1000))) (.cons (.int .i64 (.lit (1099511627776))) (.cons (.bool (.tt true)) (.cons (.int .i64 (.lit (0))) (.cons (.int .i64 (.lit (100))) (.cons (.int .i64 (.lit (5))) (.cons (.int .i64 (.lit (0))) (.cons (.int .i64 (.lit (0))) .nil)))))))))))))) (.cons (.err (.lit (0))) .nil))))))
abbrev ykc_sync0 : Con := ⟨57, [(.agg (.cons (.int .u32 (.lit (2147483648))) (.cons (.int .i64 (.lit (31))) (.cons (.int .i64 (.lit (100))) (.cons (.int .i64 (.lit (4))) (.cons (.int .i64 (.lit (1))) (.cons (.int .i64 (.lit (1000))) (.cons (.int .i64 (.lit (1099511627776))) (.cons (.bool (.tt false)) (.cons (.int .i64 (.lit (0))) (.cons (.int .i64 (.lit (0))) (.cons (.int .i64 (.lit (0))) (.cons (.int .i64 (.lit (0))) (.cons (.int .i64 (.lit (0))) .nil)))))))))))))), (.int .i64 (.lit (0))), (.agg (.cons (.int .i64 (.lit (95))) (.cons (.int .i64 (.lit (105))) .nil)))], (.tt true), (.tup (.cons (.agg (.cons (.int .u32 (.lit (2147483648))) (.cons (.int .i64 (.lit (31))) (.cons (.int .i64 (.lit (100))) (.cons (.int .i64 (.lit (4))) (.cons (.int .i64 (.lit (1))) (.cons (.int .i64 (.lit (1000))) (.cons (.int .i64 (.lit (1099511627776))) (.cons (.bool (.tt true)) (.cons (.int .i64 (.lit (0))) (.cons (.int .i64 (.lit (100))) (.cons (.int .i64 (.lit (5))) (.cons (.int .i64 (.lit (0))) (.cons (.int .i64 (.lit (0))) .nil)))))))))))))) (.cons (.err (.lit (0))) .nil))), ⟨0, 0, 0, 0⟩, none⟩
theorem sync0_w : walk Tryd.prog 229 ⟨[yic_hcheck, yhc_spck, ykc_set0], syG, [], [], []⟩ [] .v ykc_sync0 ykc_sync0.n 3000 = some sync0_tree := by kernel_rfl
theorem sync0_h  (hc : holds (ykE [] [] [] []) (.tt true)) (hty : patsTyp (ykE [] [] [] []) [(.agg (.cons (.int .u32 (.lit (2147483648))) (.cons (.int .i64 (.lit (31))) (.cons (.int .i64 (.lit (100))) (.cons (.int .i64 (.lit (4))) (.cons (.int .i64 (.lit (1))) (.cons (.int .i64 (.lit (1000))) (.cons (.int .i64 (.lit (1099511627776))) (.cons (.bool (.tt false)) (.cons (.int .i64 (.lit (0))) (.cons (.int .i64 (.lit (0))) (.cons (.int .i64 (.lit (0))) (.cons (.int .i64 (.lit (0))) (.cons (.int .i64 (.lit (0))) .nil)))))))))))))), (.int .i64 (.lit (0))), (.agg (.cons (.int .i64 (.lit (95))) (.cons (.int .i64 (.lit (105))) .nil)))]) : sync0_tree.holds (fun v_ => v_ = denV (ykE [] [] [] []) b0 (.tup (.cons (.agg (.cons (.int .u32 (.lit (2147483648))) (.cons (.int .i64 (.lit (31))) (.cons (.int .i64 (.lit (100))) (.cons (.int .i64 (.lit (4))) (.cons (.int .i64 (.lit (1))) (.cons (.int .i64 (.lit (1000))) (.cons (.int .i64 (.lit (1099511627776))) (.cons (.bool (.tt true)) (.cons (.int .i64 (.lit (0))) (.cons (.int .i64 (.lit (100))) (.cons (.int .i64 (.lit (5))) (.cons (.int .i64 (.lit (0))) (.cons (.int .i64 (.lit (0))) .nil)))))))))))))) (.cons (.err (.lit (0))) .nil)))) (ykE [] [] [] []) := by
  simp only [Tree.holds, Sy.holds, AllN, Env.more, ykE, List.cons_append, List.nil_append, List.append_nil, denV, denI, denB, denL, I2.den, VOp.den, List.getD_cons_zero, List.getD_cons_succ, Cst.den, syso, syse, syio, sybo, List.map_nil, List.map_cons, B2.ofInts, B2.denI, B2.denB, if_true, Bool.false_eq_true, if_false, Nat.div_one, Nat.mul_one, Nat.add_zero, holds] at hc
  simp only [patsTyp, patTyp, patTypL, ykE, denV, denL, List.getD_cons_zero, List.getD_cons_succ, and_true, true_and] at hty
  unfold sync0_tree
  simp only [Tree.holds, Sy.holds, AllN, Env.more, ykE, List.cons_append, List.nil_append, List.append_nil, denV, denI, denB, denL, I2.den, VOp.den, List.getD_cons_zero, List.getD_cons_succ, Cst.den, syso, syse, syio, sybo, yki_se, yki_hme, List.map_nil, List.map_cons, B2.ofInts, B2.denI, B2.denB, if_true, Bool.false_eq_true, if_false, Nat.div_one, Nat.mul_one, Nat.add_zero]
  simp only [h_0, h_1, h_7, h_8, h_9, h_10, h_s, h_m, h_t, h_u, h_r]
  refine ⟨fun h0 => ?_, fun h0 => ?_⟩
  ·
   first
   | exact True.intro
   | rfl
   | (exfalso; omega)
   | exact absurd True.intro (by assumption)
   | exact absurd h_r (by assumption)
   | exact absurd h_0 (by assumption)
   | exact absurd h_s (by assumption)
   | skip
  ·
   refine ⟨fun h1 => ?_, fun h1 => ?_⟩
   ·
    first
    | exact True.intro
    | rfl
    | (exfalso; omega)
    | exact absurd True.intro (by assumption)
    | exact absurd h_r (by assumption)
    | exact absurd h_0 (by assumption)
    | exact absurd h_s (by assumption)
    | skip
   ·
    first
    | exact True.intro
    | rfl
    | (exfalso; omega)
    | exact absurd True.intro (by assumption)
    | exact absurd h_r (by assumption)
    | exact absurd h_0 (by assumption)
    | exact absurd h_s (by assumption)
    | skip
theorem ykg_sync0 : ykc_sync0.Good Tryd.prog syG (ykE [] [] [] []) := good_of_walk (Γ := ⟨[yic_hcheck, yhc_spck, ykc_set0], syG, [], [], []⟩) (ρ := ykE [] [] [] []) sym sync0_w rfl (fun _ _ _ _ => (ok_cons (Con.Good.env (Con.Good.up (Con.Good.up yig_hcheck yjup rfl) ykup rfl) _ _ _ _) (ok_cons (Con.Good.env (Con.Good.up (Con.Good.up (Con.Good.up yhg_spck yiup rfl) yjup rfl) ykup rfl) _ _ _ _) (ok_cons (Con.Good.env ykg_set0 _ _ _ _) ok_nil)))) (fun hc hty => sync0_h  hc hty)
def sure18_tree : Tree :=
 (.br (.b2 .eq (.iapp 46 (.cons (.tup (.cons (.int .u32 (.lit (2147483648))) (.cons (.int .i64 (.lit (31))) (.cons (.int .i64 (.lit (100))) (.cons (.int .i64 (.lit (4))) (.cons (.int .i64 (.lit (1))) (.cons (.int .i64 (.lit (1000))) (.cons (.int .i64 (.lit (1099511627776))) (.cons (.bool (.tt true)) (.cons (.int .i64 (.lit (0))) (.cons (.int .i64 (.lit (100))) (.cons (.int .i64 (.lit (5))) (.cons (.int .i64 (.lit (0))) (.cons (.int .i64 (.lit (0))) .nil)))))))))))))) (.cons (.int .i64 (.lit (10))) .nil))) (.lit (0)))
 (.br (.b2 .eq (.iapp 46 (.cons (.tup (.cons (.int .u32 (.lit (2147483648))) (.cons (.int .i64 (.lit (31))) (.cons (.int .i64 (.lit (100))) (.cons (.int .i64 (.lit (4))) (.cons (.int .i64 (.lit (1))) (.cons (.int .i64 (.lit (1000))) (.cons (.int .i64 (.lit (1099511627776))) (.cons (.bool (.tt false)) (.cons (.int .i64 (.lit (0))) (.cons (.int .i64 (.lit (0))) (.cons (.int .i64 (.lit (0))) (.cons (.int .i64 (.lit (0))) (.cons (.int .i64 (.lit (0))) .nil)))))))))))))) (.cons (.int .i64 (.lit (0))) .nil))) (.lit (13)))
 (.br (.b2 .eq (.iapp 47 (.cons (.tup (.cons (.int .u32 (.lit (2147483648))) (.cons (.int .i64 (.lit (31))) (.cons (.int .i64 (.lit (100))) (.cons (.int .i64 (.lit (4))) (.cons (.int .i64 (.lit (1))) (.cons (.int .i64 (.lit (1000))) (.cons (.int .i64 (.lit (1099511627776))) (.cons (.bool (.tt true)) (.cons (.int .i64 (.lit (0))) (.cons (.int .i64 (.lit (100))) (.cons (.int .i64 (.lit (5))) (.cons (.int .i64 (.lit (0))) (.cons (.int .i64 (.lit (0))) .nil)))))))))))))) (.cons (.int .i64 (.lit (10))) .nil))) (.lit (110)))
 (.br (.b2 .eq (.iapp 48 (.cons (.tup (.cons (.int .u32 (.lit (2147483648))) (.cons (.int .i64 (.lit (31))) (.cons (.int .i64 (.lit (100))) (.cons (.int .i64 (.lit (4))) (.cons (.int .i64 (.lit (1))) (.cons (.int .i64 (.lit (1000))) (.cons (.int .i64 (.lit (1099511627776))) (.cons (.bool (.tt true)) (.cons (.int .i64 (.lit (0))) (.cons (.int .i64 (.lit (100))) (.cons (.int .i64 (.lit (5))) (.cons (.int .i64 (.lit (0))) (.cons (.int .i64 (.lit (0))) .nil)))))))))))))) (.cons (.int .i64 (.lit (10))) .nil))) (.lit (10)))
 (.br (.b2 .eq (.iapp 46 (.cons (.tup (.cons (.int .u32 (.lit (2147483648))) (.cons (.int .i64 (.lit (31))) (.cons (.int .i64 (.lit (100))) (.cons (.int .i64 (.lit (4))) (.cons (.int .i64 (.lit (1))) (.cons (.int .i64 (.lit (1000))) (.cons (.int .i64 (.lit (1099511627776))) (.cons (.bool (.tt true)) (.cons (.int .i64 (.lit (0))) (.cons (.int .i64 (.lit (100))) (.cons (.int .i64 (.lit (5))) (.cons (.int .i64 (.lit (0))) (.cons (.int .i64 (.lit (0))) .nil)))))))))))))) (.cons (.int .i64 (.lit (-1))) .nil))) (.lit (10)))
 (.ret (.bool (.tt true)))
 (.ret (.bool (.tt false))))
 (.ret (.bool (.tt false))))
 (.ret (.bool (.tt false))))
 (.ret (.bool (.tt false))))
 (.ret (.bool (.tt false))))
abbrev ykc_sure18 : Con := ⟨56, [], (.tt true), (.bool (.tt true)), ⟨0, 0, 0, 0⟩, none⟩
theorem sure18_w : walk Tryd.prog 229 ⟨[ykc_rule, ykc_new0, yic_now, ykc_sync0, ykc_num, ykc_drop], syG, [], [], []⟩ [] .v ykc_sure18 ykc_sure18.n 3000 = some sure18_tree := by kernel_rfl
theorem sure18_h  (hc : holds (ykE [] [] [] []) (.tt true)) (hty : patsTyp (ykE [] [] [] []) []) : sure18_tree.holds (fun v_ => v_ = denV (ykE [] [] [] []) b0 (.bool (.tt true))) (ykE [] [] [] []) := by
  simp only [Tree.holds, Sy.holds, AllN, Env.more, ykE, List.cons_append, List.nil_append, List.append_nil, denV, denI, denB, denL, I2.den, VOp.den, List.getD_cons_zero, List.getD_cons_succ, Cst.den, syso, syse, syio, sybo, List.map_nil, List.map_cons, B2.ofInts, B2.denI, B2.denB, if_true, Bool.false_eq_true, if_false, Nat.div_one, Nat.mul_one, Nat.add_zero, holds] at hc
  simp only [patsTyp, patTyp, patTypL, ykE, denV, denL, List.getD_cons_zero, List.getD_cons_succ, and_true, true_and] at hty
  unfold sure18_tree
  simp only [Tree.holds, Sy.holds, AllN, Env.more, ykE, List.cons_append, List.nil_append, List.append_nil, denV, denI, denB, denL, I2.den, VOp.den, List.getD_cons_zero, List.getD_cons_succ, Cst.den, syso, syse, syio, sybo, yki_nwe, yki_nwt, yki_nwo, List.map_nil, List.map_cons, B2.ofInts, B2.denI, B2.denB, if_true, Bool.false_eq_true, if_false, Nat.div_one, Nat.mul_one, Nat.add_zero]
  simp only [h_0, h_1, h_7, h_8, h_9, h_10, h_s, h_m, h_t, h_u, h_r]
  refine ⟨fun h0 => ?_, fun h0 => ?_⟩
  ·
   refine ⟨fun h1 => ?_, fun h1 => ?_⟩
   ·
    refine ⟨fun h2 => ?_, fun h2 => ?_⟩
    ·
     refine ⟨fun h3 => ?_, fun h3 => ?_⟩
     ·
      refine ⟨fun h4 => ?_, fun h4 => ?_⟩
      ·
       first
       | exact True.intro
       | rfl
       | (exfalso; omega)
       | exact absurd True.intro (by assumption)
       | exact absurd h_r (by assumption)
       | exact absurd h_0 (by assumption)
       | exact absurd h_s (by assumption)
       | skip
      ·
       first
       | exact True.intro
       | rfl
       | (exfalso; omega)
       | exact absurd True.intro (by assumption)
       | exact absurd h_r (by assumption)
       | exact absurd h_0 (by assumption)
       | exact absurd h_s (by assumption)
       | skip
     ·
      first
      | exact True.intro
      | rfl
      | (exfalso; omega)
      | exact absurd True.intro (by assumption)
      | exact absurd h_r (by assumption)
      | exact absurd h_0 (by assumption)
      | exact absurd h_s (by assumption)
      | skip
    ·
     first
     | exact True.intro
     | rfl
     | (exfalso; omega)
     | exact absurd True.intro (by assumption)
     | exact absurd h_r (by assumption)
     | exact absurd h_0 (by assumption)
     | exact absurd h_s (by assumption)
     | skip
   ·
    first
    | exact True.intro
    | rfl
    | (exfalso; omega)
    | exact absurd True.intro (by assumption)
    | exact absurd h_r (by assumption)
    | exact absurd h_0 (by assumption)
    | exact absurd h_s (by assumption)
    | skip
  ·
   first
   | exact True.intro
   | rfl
   | (exfalso; omega)
   | exact absurd True.intro (by assumption)
   | exact absurd h_r (by assumption)
   | exact absurd h_0 (by assumption)
   | exact absurd h_s (by assumption)
   | skip
theorem ykg_sure18 : ykc_sure18.Good Tryd.prog syG (ykE [] [] [] []) := good_of_walk (Γ := ⟨[ykc_rule, ykc_new0, yic_now, ykc_sync0, ykc_num, ykc_drop], syG, [], [], []⟩) (ρ := ykE [] [] [] []) sym sure18_w rfl (fun _ _ _ _ => (ok_cons (Con.Good.env ykg_rule _ _ _ _) (ok_cons (Con.Good.env ykg_new0 _ _ _ _) (ok_cons (Con.Good.env (Con.Good.up (Con.Good.up yig_now yjup rfl) ykup rfl) _ _ _ _) (ok_cons (Con.Good.env ykg_sync0 _ _ _ _) (ok_cons (Con.Good.env ykg_num _ _ _ _) (ok_cons (Con.Good.env ykg_drop _ _ _ _) ok_nil))))))) (fun hc hty => sure18_h  hc hty)
end Go.Proofs.YtjhjgfnodhbacaaDoor
