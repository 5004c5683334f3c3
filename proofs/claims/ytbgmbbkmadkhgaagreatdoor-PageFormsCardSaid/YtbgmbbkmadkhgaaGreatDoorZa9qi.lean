/-
  Layer 19 by the second engine: what must come, the law.
-/
import Derived.Test.YtbgmbbkmadkhgaaGreatDoorSycqi
import Derived.Test.YtbgmbbkmadkhgaaGreatDoorZyqi
import Derived.Test.YtbgmbbkmadkhgaaGreatDoorE00qi
namespace Go.Proofs.YtbgmbbkmadkhgaaGreatDoor
open Go.RowKit Go.Extern.Stop Go.Stop Go.Extern Go.Proofs.YtbgmbbkmadkhgaaGreatDoor.Sy
set_option linter.unusedVariables false
set_option linter.unusedSimpArgs false
theorem q_pm : pgB (Sy.rows (Value.tuple #[.int .i64 3, .int .i64 5, .int .i64 (-7), .int .i64 9, .int .u32 2147483648, .int .i64 31, .int .u32 2147483648, .int .i64 31, .int .i64 11, .int .i64 100])) = true := by decide
theorem ql0 : IntKind.wrap .i64 3 = 3 := by decide
theorem ql1 : IntKind.wrap .i64 5 = 5 := by decide
theorem ql2 : IntKind.wrap .i64 9 = 9 := by decide
theorem ql3 : IntKind.wrap .i64 2147483648 = 2147483648 := by decide
theorem ql4 : IntKind.wrap .u32 2147483648 = 2147483648 := by decide
theorem ql5 : IntKind.wrap .i64 31 = 31 := by decide
theorem ql6 : IntKind.wrap .i64 11 = 11 := by decide
theorem ql7 : IntKind.wrap .i64 100 = 100 := by decide
theorem ql8 : IntKind.wrap .i64 18446744073709551609 = (-7) := by decide
theorem ql9 : IntKind.wrap .i64 0 = 0 := by decide
theorem q_u : u6 (-7) = 18446744073709551609 := by decide
theorem q_l2 : wdK (Sy.rows (Value.tuple #[.int .i64 3, .int .i64 5, .int .i64 (-7), .int .i64 9, .int .u32 2147483648, .int .i64 31, .int .u32 2147483648, .int .i64 31, .int .i64 11, .int .i64 100])) 6 (Int.toNat 2) = 5 := rfl
theorem q_sz0 : szE 0 = 0 := by decide
theorem q_sz2 : szE 2 = 2 := by decide
theorem q_fe : feE 2147483648 31 = 0 := by decide
noncomputable def za9I : Nat → List Value → Int
  | i, l => zyI i l
noncomputable def za9B : Nat → List Value → Bool
  | i, l => zyB i l
noncomputable def za9V : Nat → List Value → Value
  | i, l => zyV i l
noncomputable abbrev za9E (iv : List Int) (bv : List Bool) (vv : List Value) (sv : List ByteArray) : Env := { iv := iv, bv := bv, vv := vv, sv := sv, fi := za9I, fb := za9B, fv := za9V, et := 81 }
set_option maxHeartbeats 8000000 in
theorem za9up : Agree 31 6 13 (zyE [] [] [] []) (za9E [] [] [] []) := ⟨rfl, (by
    intro f hf
    funext l
    show za9I f l = zyI f l
    unfold za9I
    split <;> first | rfl | omega), (by
    intro f hf
    funext l
    show za9B f l = zyB f l
    unfold za9B
    split <;> first | rfl | omega), (by
    intro f hf
    funext l
    show za9V f l = zyV f l
    unfold za9V
    split <;> first | rfl | omega)⟩
theorem za9i_sz (k1 : IntKind) (a : Int) : za9I 19 [.int k1 a] = szE a := rfl
theorem za9i_sa (k1 : IntKind) (a : Int) : za9I 20 [.int k1 a] = satE a := rfl
theorem za9i_fe (k1 : IntKind) (a : Int) (k2 : IntKind) (s : Int) : za9I 23 [.int k1 a, .int k2 s] = feE a s := rfl
theorem za9i_ws (l : Value) : za9I 25 [l] = wsI (rows l) := rfl
theorem za9i_lw (l : Value) (k1 : IntKind) (q : Int) (k2 : IntKind) (k : Int) : za9I 26 [l, .int k1 q, .int k2 k] = wdK (rows l) q k.toNat := rfl
theorem za9b_okr (l : Value) : za9B 0 [l] = okR (rows l) := rfl
theorem za9b_pm (l : Value) : za9B 5 [l] = pgB (rows l) := rfl
def some_tree : Tree :=
 (.ret (.agg (.cons (.int .i64 (.lit 3)) (.cons (.int .i64 (.lit 5)) (.cons (.int .i64 (.lit (-7))) (.cons (.int .i64 (.lit 9)) (.cons (.int .u32 (.lit 2147483648)) (.cons (.int .i64 (.lit 31)) (.cons (.int .u32 (.lit 2147483648)) (.cons (.int .i64 (.lit 31)) (.cons (.int .i64 (.lit 11)) (.cons (.int .i64 (.lit 100)) .nil))))))))))))
abbrev za9c_some : Con := ⟨12, [], (.tt true), (.agg (.cons (.int .i64 (.lit 3)) (.cons (.int .i64 (.lit 5)) (.cons (.int .i64 (.lit (-7))) (.cons (.int .i64 (.lit 9)) (.cons (.int .u32 (.lit 2147483648)) (.cons (.int .i64 (.lit 31)) (.cons (.int .u32 (.lit 2147483648)) (.cons (.int .i64 (.lit 31)) (.cons (.int .i64 (.lit 11)) (.cons (.int .i64 (.lit 100)) .nil))))))))))), ⟨0, 0, 0, 0⟩, none⟩
theorem some_w : walk Tryz.prog 81 ⟨[], syG, [], [], []⟩ [] .v za9c_some za9c_some.n 3000 = some some_tree := by kernel_rfl
theorem some_h  (hc : holds (za9E [] [] [] []) (.tt true)) (hty : patsTyp (za9E [] [] [] []) []) : some_tree.holds (fun v_ => v_ = denV (za9E [] [] [] []) b0 (.agg (.cons (.int .i64 (.lit 3)) (.cons (.int .i64 (.lit 5)) (.cons (.int .i64 (.lit (-7))) (.cons (.int .i64 (.lit 9)) (.cons (.int .u32 (.lit 2147483648)) (.cons (.int .i64 (.lit 31)) (.cons (.int .u32 (.lit 2147483648)) (.cons (.int .i64 (.lit 31)) (.cons (.int .i64 (.lit 11)) (.cons (.int .i64 (.lit 100)) .nil)))))))))))) (za9E [] [] [] []) := by
  simp only [Tree.holds, Sy.holds, AllN, Env.more, za9E, List.cons_append, List.nil_append, List.append_nil, denV, denI, denB, denL, I2.den, VOp.den, List.getD_cons_zero, List.getD_cons_succ, Cst.den, syso, syse, syio, sybo, List.map_nil, List.map_cons, B2.ofInts, B2.denI, B2.denB, if_true, Bool.false_eq_true, if_false, Nat.div_one, Nat.mul_one, Nat.add_zero, holds] at hc
  simp only [patsTyp, patTyp, patTypL, za9E, denV, denL, List.getD_cons_zero, List.getD_cons_succ, and_true, true_and] at hty
  unfold some_tree
  simp only [Tree.holds, Sy.holds, AllN, Env.more, za9E, List.cons_append, List.nil_append, List.append_nil, denV, denI, denB, denL, I2.den, VOp.den, List.getD_cons_zero, List.getD_cons_succ, Cst.den, syso, syse, syio, sybo, List.map_nil, List.map_cons, B2.ofInts, B2.denI, B2.denB, if_true, Bool.false_eq_true, if_false, Nat.div_one, Nat.mul_one, Nat.add_zero]
  all_goals first | omega | rfl | (simp only [Value.tuple.injEq, Value.agg.injEq, Value.int.injEq, Value.bool.injEq, Array.mk.injEq, List.cons.injEq, true_and, and_true]; omega) | (refine congrArg Value.bool (Bool.eq_iff_iff.2 ?_); simp only [beq_iff_eq, decide_eq_true_eq, true_iff, false_iff, Bool.false_eq_true, Bool.not_eq_true', Bool.and_eq_true, Bool.or_eq_true, decide_eq_false_iff_not]; omega)
theorem za9g_some : za9c_some.Good Tryz.prog syG (za9E [] [] [] []) := good_of_walk (Γ := ⟨[], syG, [], [], []⟩) (ρ := za9E [] [] [] []) sym some_w rfl (fun _ _ _ _ => ok_nil) (fun hc hty => some_h  hc hty)
def parts_tree : Tree :=
 (.ret (.agg (.cons z0_ (.cons z1_ .nil))))
abbrev za9c_parts : Con := ⟨90, [(.agg (.cons z0_ (.cons z1_ .nil)))], (.tt true), (.agg (.cons z0_ (.cons z1_ .nil))), ⟨2, 0, 0, 0⟩, none⟩
theorem parts_w : walk Tryz.prog 81 ⟨[], syG, [], [], []⟩ [] .v za9c_parts za9c_parts.n 3000 = some parts_tree := by kernel_rfl
theorem parts_h (a : Int) (b : Int) (hc : holds (za9E [a, b] [] [] []) (.tt true)) (hty : patsTyp (za9E [a, b] [] [] []) [(.agg (.cons z0_ (.cons z1_ .nil)))]) : parts_tree.holds (fun v_ => v_ = denV (za9E [a, b] [] [] []) b0 (.agg (.cons z0_ (.cons z1_ .nil)))) (za9E [a, b] [] [] []) := by
  simp only [Tree.holds, Sy.holds, AllN, Env.more, za9E, List.cons_append, List.nil_append, List.append_nil, denV, denI, denB, denL, I2.den, VOp.den, List.getD_cons_zero, List.getD_cons_succ, Cst.den, syso, syse, syio, sybo, List.map_nil, List.map_cons, B2.ofInts, B2.denI, B2.denB, if_true, Bool.false_eq_true, if_false, Nat.div_one, Nat.mul_one, Nat.add_zero, holds] at hc
  simp only [patsTyp, patTyp, patTypL, za9E, denV, denL, List.getD_cons_zero, List.getD_cons_succ, and_true, true_and] at hty
  unfold parts_tree
  simp only [Tree.holds, Sy.holds, AllN, Env.more, za9E, List.cons_append, List.nil_append, List.append_nil, denV, denI, denB, denL, I2.den, VOp.den, List.getD_cons_zero, List.getD_cons_succ, Cst.den, syso, syse, syio, sybo, List.map_nil, List.map_cons, B2.ofInts, B2.denI, B2.denB, if_true, Bool.false_eq_true, if_false, Nat.div_one, Nat.mul_one, Nat.add_zero]
  all_goals first | omega | rfl | (simp only [Value.tuple.injEq, Value.agg.injEq, Value.int.injEq, Value.bool.injEq, Array.mk.injEq, List.cons.injEq, true_and, and_true]; omega) | (refine congrArg Value.bool (Bool.eq_iff_iff.2 ?_); simp only [beq_iff_eq, decide_eq_true_eq, true_iff, false_iff, Bool.false_eq_true, Bool.not_eq_true', Bool.and_eq_true, Bool.or_eq_true, decide_eq_false_iff_not]; omega)
theorem za9g_parts : za9c_parts.Good Tryz.prog syG (za9E [] [] [] []) := good_of_walk (Γ := ⟨[], syG, [], [], []⟩) (ρ := za9E [] [] [] []) sym parts_w rfl (fun _ _ _ _ => ok_nil) (fun a b hc hty => parts_h a b hc hty)
def sck_tree : Tree :=
 (.ret (.cst .nilI))
abbrev za9c_sck : Con := ⟨70, [(.agg (.cons (.int .i64 (.lit 0)) (.cons (.int .i64 (.lit 0)) .nil))), (.int .i64 (.lit 0))], (.tt true), (.err (.lit 0)), ⟨0, 0, 0, 0⟩, none⟩
theorem sck_w : walk Tryz.prog 81 ⟨[za9c_parts], syG, [], [], []⟩ [] .v za9c_sck za9c_sck.n 3000 = some sck_tree := by kernel_rfl
theorem sck_h  (hc : holds (za9E [] [] [] []) (.tt true)) (hty : patsTyp (za9E [] [] [] []) [(.agg (.cons (.int .i64 (.lit 0)) (.cons (.int .i64 (.lit 0)) .nil))), (.int .i64 (.lit 0))]) : sck_tree.holds (fun v_ => v_ = denV (za9E [] [] [] []) b0 (.err (.lit 0))) (za9E [] [] [] []) := by
  simp only [Tree.holds, Sy.holds, AllN, Env.more, za9E, List.cons_append, List.nil_append, List.append_nil, denV, denI, denB, denL, I2.den, VOp.den, List.getD_cons_zero, List.getD_cons_succ, Cst.den, syso, syse, syio, sybo, List.map_nil, List.map_cons, B2.ofInts, B2.denI, B2.denB, if_true, Bool.false_eq_true, if_false, Nat.div_one, Nat.mul_one, Nat.add_zero, holds] at hc
  simp only [patsTyp, patTyp, patTypL, za9E, denV, denL, List.getD_cons_zero, List.getD_cons_succ, and_true, true_and] at hty
  unfold sck_tree
  simp only [Tree.holds, Sy.holds, AllN, Env.more, za9E, List.cons_append, List.nil_append, List.append_nil, denV, denI, denB, denL, I2.den, VOp.den, List.getD_cons_zero, List.getD_cons_succ, Cst.den, syso, syse, syio, sybo, List.map_nil, List.map_cons, B2.ofInts, B2.denI, B2.denB, if_true, Bool.false_eq_true, if_false, Nat.div_one, Nat.mul_one, Nat.add_zero]
  have s0 := q_sz0
  have s2 := q_sz2
  have f0 := q_fe
  first
  | (exfalso; omega)
  | rfl
theorem za9g_sck : za9c_sck.Good Tryz.prog syG (za9E [] [] [] []) := good_of_walk (Γ := ⟨[za9c_parts], syG, [], [], []⟩) (ρ := za9E [] [] [] []) sym sck_w rfl (fun _ _ _ _ => (ok_cons (Con.Good.env za9g_parts _ _ _ _) ok_nil)) (fun hc hty => sck_h  hc hty)
def ckr_tree : Tree :=
 (.br (.not (eq_ (.iapp 23 (.cons (.int .u32 (.lit 2147483648)) (.cons (.int .i64 (.lit 31)) .nil))) (.lit 0)))
 (.ret (.iface 81 (.int .i64 (.lit 1))))
 (.ret (.cst .nilI)))
abbrev za9c_ckr : Con := ⟨62, [(.agg (.cons (.int .u32 (.lit 2147483648)) (.cons (.int .i64 (.lit 31)) (.cons (.int .i64 (.lit 0)) (.cons (.int .i64 (.lit 0)) (.cons (.int .i64 (.lit 0)) (.cons (.int .i64 (.lit 0)) (.cons (.int .i64 (.lit 5)) .nil))))))))], (.tt true), (.err (.lit 0)), ⟨0, 0, 0, 0⟩, none⟩
theorem ckr_w : walk Tryz.prog 81 ⟨[zuc_rcheck, za9c_sck], syG, [], [], []⟩ [] .v za9c_ckr za9c_ckr.n 3000 = some ckr_tree := by kernel_rfl
theorem ckr_h  (hc : holds (za9E [] [] [] []) (.tt true)) (hty : patsTyp (za9E [] [] [] []) [(.agg (.cons (.int .u32 (.lit 2147483648)) (.cons (.int .i64 (.lit 31)) (.cons (.int .i64 (.lit 0)) (.cons (.int .i64 (.lit 0)) (.cons (.int .i64 (.lit 0)) (.cons (.int .i64 (.lit 0)) (.cons (.int .i64 (.lit 5)) .nil))))))))]) : ckr_tree.holds (fun v_ => v_ = denV (za9E [] [] [] []) b0 (.err (.lit 0))) (za9E [] [] [] []) := by
  simp only [Tree.holds, Sy.holds, AllN, Env.more, za9E, List.cons_append, List.nil_append, List.append_nil, denV, denI, denB, denL, I2.den, VOp.den, List.getD_cons_zero, List.getD_cons_succ, Cst.den, syso, syse, syio, sybo, List.map_nil, List.map_cons, B2.ofInts, B2.denI, B2.denB, if_true, Bool.false_eq_true, if_false, Nat.div_one, Nat.mul_one, Nat.add_zero, holds] at hc
  simp only [patsTyp, patTyp, patTypL, za9E, denV, denL, List.getD_cons_zero, List.getD_cons_succ, and_true, true_and] at hty
  unfold ckr_tree
  simp only [Tree.holds, Sy.holds, AllN, Env.more, za9E, List.cons_append, List.nil_append, List.append_nil, denV, denI, denB, denL, I2.den, VOp.den, List.getD_cons_zero, List.getD_cons_succ, Cst.den, syso, syse, syio, sybo, za9i_fe, List.map_nil, List.map_cons, B2.ofInts, B2.denI, B2.denB, if_true, Bool.false_eq_true, if_false, Nat.div_one, Nat.mul_one, Nat.add_zero]
  have s0 := q_sz0
  have s2 := q_sz2
  have f0 := q_fe
  refine ⟨fun h0 => ?_, fun h0 => ?_⟩
  ·
   first
   | (exfalso; omega)
   | rfl
  ·
   first
   | (exfalso; omega)
   | rfl
theorem za9g_ckr : za9c_ckr.Good Tryz.prog syG (za9E [] [] [] []) := good_of_walk (Γ := ⟨[zuc_rcheck, za9c_sck], syG, [], [], []⟩) (ρ := za9E [] [] [] []) sym ckr_w rfl (fun _ _ _ _ => (ok_cons (Con.Good.env (Con.Good.up (Con.Good.up zug_rcheck zyup rfl) za9up rfl) _ _ _ _) (ok_cons (Con.Good.env za9g_sck _ _ _ _) ok_nil))) (fun hc hty => ckr_h  hc hty)
def hck0_tree : Tree :=
 (.br (le_ (.lit 4611686018427387904) (.iapp 19 (.cons (.int .i64 (.lit 0)) .nil)))
 (.ret (.iface 81 (.int .i64 (.lit 1))))
 (.br (lt_ (.lit 0) (.iapp 19 (.cons (.int .i64 (.lit 0)) .nil)))
 (.ret (.iface 81 (.int .i64 (.lit 1))))
 (.br (lt_ (.lit 1048576) (.iapp 19 (.cons (.int .i64 (.lit 0)) .nil)))
 (.ret (.iface 81 (.int .i64 (.lit 1))))
 (.ret (.cst .nilI)))))
abbrev za9c_hck0 : Con := ⟨34, [(.agg (.cons (.int .u32 (.lit 2147483648)) (.cons (.int .i64 (.lit 31)) (.cons (.int .i64 (.lit 0)) (.cons (.int .i64 (.lit 0)) (.cons (.int .i64 (.lit 0)) (.cons (.int .i64 (.lit 0)) (.cons (.int .i64 (.lit 5)) (.cons (.bool (.tt false)) (.cons (.int .i64 (.lit 0)) (.cons (.int .i64 (.lit 0)) (.cons (.int .i64 (.lit 0)) (.cons (.int .i64 (.lit 0)) (.cons (.int .i64 (.lit 0)) .nil))))))))))))))], (.tt true), (.err (.lit 0)), ⟨0, 0, 0, 0⟩, none⟩
theorem hck0_w : walk Tryz.prog 81 ⟨[za9c_ckr, zuc_size], syG, [], [], []⟩ [] .v za9c_hck0 za9c_hck0.n 3000 = some hck0_tree := by kernel_rfl
theorem hck0_h  (hc : holds (za9E [] [] [] []) (.tt true)) (hty : patsTyp (za9E [] [] [] []) [(.agg (.cons (.int .u32 (.lit 2147483648)) (.cons (.int .i64 (.lit 31)) (.cons (.int .i64 (.lit 0)) (.cons (.int .i64 (.lit 0)) (.cons (.int .i64 (.lit 0)) (.cons (.int .i64 (.lit 0)) (.cons (.int .i64 (.lit 5)) (.cons (.bool (.tt false)) (.cons (.int .i64 (.lit 0)) (.cons (.int .i64 (.lit 0)) (.cons (.int .i64 (.lit 0)) (.cons (.int .i64 (.lit 0)) (.cons (.int .i64 (.lit 0)) .nil))))))))))))))]) : hck0_tree.holds (fun v_ => v_ = denV (za9E [] [] [] []) b0 (.err (.lit 0))) (za9E [] [] [] []) := by
  simp only [Tree.holds, Sy.holds, AllN, Env.more, za9E, List.cons_append, List.nil_append, List.append_nil, denV, denI, denB, denL, I2.den, VOp.den, List.getD_cons_zero, List.getD_cons_succ, Cst.den, syso, syse, syio, sybo, List.map_nil, List.map_cons, B2.ofInts, B2.denI, B2.denB, if_true, Bool.false_eq_true, if_false, Nat.div_one, Nat.mul_one, Nat.add_zero, holds] at hc
  simp only [patsTyp, patTyp, patTypL, za9E, denV, denL, List.getD_cons_zero, List.getD_cons_succ, and_true, true_and] at hty
  unfold hck0_tree
  simp only [Tree.holds, Sy.holds, AllN, Env.more, za9E, List.cons_append, List.nil_append, List.append_nil, denV, denI, denB, denL, I2.den, VOp.den, List.getD_cons_zero, List.getD_cons_succ, Cst.den, syso, syse, syio, sybo, za9i_sz, List.map_nil, List.map_cons, B2.ofInts, B2.denI, B2.denB, if_true, Bool.false_eq_true, if_false, Nat.div_one, Nat.mul_one, Nat.add_zero]
  have s0 := q_sz0
  have s2 := q_sz2
  have f0 := q_fe
  refine ⟨fun h0 => ?_, fun h0 => ?_⟩
  ·
   first
   | (exfalso; omega)
   | rfl
  ·
   refine ⟨fun h1 => ?_, fun h1 => ?_⟩
   ·
    first
    | (exfalso; omega)
    | rfl
   ·
    refine ⟨fun h2 => ?_, fun h2 => ?_⟩
    ·
     first
     | (exfalso; omega)
     | rfl
    ·
     first
     | (exfalso; omega)
     | rfl
theorem za9g_hck0 : za9c_hck0.Good Tryz.prog syG (za9E [] [] [] []) := good_of_walk (Γ := ⟨[za9c_ckr, zuc_size], syG, [], [], []⟩) (ρ := za9E [] [] [] []) sym hck0_w rfl (fun _ _ _ _ => (ok_cons (Con.Good.env za9g_ckr _ _ _ _) (ok_cons (Con.Good.env (Con.Good.up (Con.Good.up zug_size zyup rfl) za9up rfl) _ _ _ _) ok_nil))) (fun hc hty => hck0_h  hc hty)
def hck1_tree : Tree :=
 (.br (le_ (.lit 4611686018427387904) (.iapp 19 (.cons (.int .i64 (.lit 2)) .nil)))
 (.ret (.iface 81 (.int .i64 (.lit 1))))
 (.br (lt_ (.lit 0) (.iapp 19 (.cons (.int .i64 (.lit 0)) .nil)))
 (.ret (.iface 81 (.int .i64 (.lit 1))))
 (.br (lt_ (.lit 1048576) (.iapp 19 (.cons (.int .i64 (.lit 0)) .nil)))
 (.ret (.iface 81 (.int .i64 (.lit 1))))
 (.ret (.cst .nilI)))))
abbrev za9c_hck1 : Con := ⟨34, [(.agg (.cons (.int .u32 (.lit 2147483648)) (.cons (.int .i64 (.lit 31)) (.cons (.int .i64 (.lit 0)) (.cons (.int .i64 (.lit 0)) (.cons (.int .i64 (.lit 0)) (.cons (.int .i64 (.lit 0)) (.cons (.int .i64 (.lit 5)) (.cons (.bool (.tt true)) (.cons (.int .i64 (.lit 4)) (.cons (.int .i64 (.lit 2)) (.cons (.int .i64 (.lit 1)) (.cons (.int .i64 (.lit 0)) (.cons (.int .i64 (.lit 0)) .nil))))))))))))))], (.tt true), (.err (.lit 0)), ⟨0, 0, 0, 0⟩, none⟩
theorem hck1_w : walk Tryz.prog 81 ⟨[za9c_ckr, zuc_size], syG, [], [], []⟩ [] .v za9c_hck1 za9c_hck1.n 3000 = some hck1_tree := by kernel_rfl
theorem hck1_h  (hc : holds (za9E [] [] [] []) (.tt true)) (hty : patsTyp (za9E [] [] [] []) [(.agg (.cons (.int .u32 (.lit 2147483648)) (.cons (.int .i64 (.lit 31)) (.cons (.int .i64 (.lit 0)) (.cons (.int .i64 (.lit 0)) (.cons (.int .i64 (.lit 0)) (.cons (.int .i64 (.lit 0)) (.cons (.int .i64 (.lit 5)) (.cons (.bool (.tt true)) (.cons (.int .i64 (.lit 4)) (.cons (.int .i64 (.lit 2)) (.cons (.int .i64 (.lit 1)) (.cons (.int .i64 (.lit 0)) (.cons (.int .i64 (.lit 0)) .nil))))))))))))))]) : hck1_tree.holds (fun v_ => v_ = denV (za9E [] [] [] []) b0 (.err (.lit 0))) (za9E [] [] [] []) := by
  simp only [Tree.holds, Sy.holds, AllN, Env.more, za9E, List.cons_append, List.nil_append, List.append_nil, denV, denI, denB, denL, I2.den, VOp.den, List.getD_cons_zero, List.getD_cons_succ, Cst.den, syso, syse, syio, sybo, List.map_nil, List.map_cons, B2.ofInts, B2.denI, B2.denB, if_true, Bool.false_eq_true, if_false, Nat.div_one, Nat.mul_one, Nat.add_zero, holds] at hc
  simp only [patsTyp, patTyp, patTypL, za9E, denV, denL, List.getD_cons_zero, List.getD_cons_succ, and_true, true_and] at hty
  unfold hck1_tree
  simp only [Tree.holds, Sy.holds, AllN, Env.more, za9E, List.cons_append, List.nil_append, List.append_nil, denV, denI, denB, denL, I2.den, VOp.den, List.getD_cons_zero, List.getD_cons_succ, Cst.den, syso, syse, syio, sybo, za9i_sz, List.map_nil, List.map_cons, B2.ofInts, B2.denI, B2.denB, if_true, Bool.false_eq_true, if_false, Nat.div_one, Nat.mul_one, Nat.add_zero]
  have s0 := q_sz0
  have s2 := q_sz2
  have f0 := q_fe
  refine ⟨fun h0 => ?_, fun h0 => ?_⟩
  ·
   first
   | (exfalso; omega)
   | rfl
  ·
   refine ⟨fun h1 => ?_, fun h1 => ?_⟩
   ·
    first
    | (exfalso; omega)
    | rfl
   ·
    refine ⟨fun h2 => ?_, fun h2 => ?_⟩
    ·
     first
     | (exfalso; omega)
     | rfl
    ·
     first
     | (exfalso; omega)
     | rfl
theorem za9g_hck1 : za9c_hck1.Good Tryz.prog syG (za9E [] [] [] []) := good_of_walk (Γ := ⟨[za9c_ckr, zuc_size], syG, [], [], []⟩) (ρ := za9E [] [] [] []) sym hck1_w rfl (fun _ _ _ _ => (ok_cons (Con.Good.env za9g_ckr _ _ _ _) (ok_cons (Con.Good.env (Con.Good.up (Con.Good.up zug_size zyup rfl) za9up rfl) _ _ _ _) ok_nil))) (fun hc hty => hck1_h  hc hty)
def spck_tree : Tree :=
 (.ret (.cst .nilI))
abbrev za9c_spck : Con := ⟨35, [(.agg (.cons (.int .i64 (.lit 1)) (.cons (.int .i64 (.lit 3)) .nil)))], (.tt true), (.err (.lit 0)), ⟨0, 0, 0, 0⟩, none⟩
theorem spck_w : walk Tryz.prog 81 ⟨[], syG, [], [], []⟩ [] .v za9c_spck za9c_spck.n 3000 = some spck_tree := by kernel_rfl
theorem spck_h  (hc : holds (za9E [] [] [] []) (.tt true)) (hty : patsTyp (za9E [] [] [] []) [(.agg (.cons (.int .i64 (.lit 1)) (.cons (.int .i64 (.lit 3)) .nil)))]) : spck_tree.holds (fun v_ => v_ = denV (za9E [] [] [] []) b0 (.err (.lit 0))) (za9E [] [] [] []) := by
  simp only [Tree.holds, Sy.holds, AllN, Env.more, za9E, List.cons_append, List.nil_append, List.append_nil, denV, denI, denB, denL, I2.den, VOp.den, List.getD_cons_zero, List.getD_cons_succ, Cst.den, syso, syse, syio, sybo, List.map_nil, List.map_cons, B2.ofInts, B2.denI, B2.denB, if_true, Bool.false_eq_true, if_false, Nat.div_one, Nat.mul_one, Nat.add_zero, holds] at hc
  simp only [patsTyp, patTyp, patTypL, za9E, denV, denL, List.getD_cons_zero, List.getD_cons_succ, and_true, true_and] at hty
  unfold spck_tree
  simp only [Tree.holds, Sy.holds, AllN, Env.more, za9E, List.cons_append, List.nil_append, List.append_nil, denV, denI, denB, denL, I2.den, VOp.den, List.getD_cons_zero, List.getD_cons_succ, Cst.den, syso, syse, syio, sybo, List.map_nil, List.map_cons, B2.ofInts, B2.denI, B2.denB, if_true, Bool.false_eq_true, if_false, Nat.div_one, Nat.mul_one, Nat.add_zero]
  have s0 := q_sz0
  have s2 := q_sz2
  have f0 := q_fe
  first
  | (exfalso; omega)
  | rfl
theorem za9g_spck : za9c_spck.Good Tryz.prog syG (za9E [] [] [] []) := good_of_walk (Γ := ⟨[], syG, [], [], []⟩) (ρ := za9E [] [] [] []) sym spck_w rfl (fun _ _ _ _ => ok_nil) (fun hc hty => spck_h  hc hty)
def mid_tree : Tree :=
 (.ret (.tup (.cons (.int .i64 (.lit 2)) (.cons (.int .i64 (.iapp 20 (.cons (.int .i64 (.lit 1)) .nil))) (.cons (.cst .nilI) .nil)))))
abbrev za9c_mid : Con := ⟨63, [(.agg (.cons (.int .i64 (.lit 1)) (.cons (.int .i64 (.lit 3)) .nil)))], (.tt true), (.tup (.cons (.int .i64 (.lit 2)) (.cons (.int .i64 (.lit 1)) (.cons (.err (.lit 0)) .nil)))), ⟨0, 0, 0, 0⟩, none⟩
theorem mid_w : walk Tryz.prog 81 ⟨[za9c_spck, zuc_subsat], syG, [], [], []⟩ [] .v za9c_mid za9c_mid.n 3000 = some mid_tree := by kernel_rfl
theorem mid_h  (hc : holds (za9E [] [] [] []) (.tt true)) (hty : patsTyp (za9E [] [] [] []) [(.agg (.cons (.int .i64 (.lit 1)) (.cons (.int .i64 (.lit 3)) .nil)))]) : mid_tree.holds (fun v_ => v_ = denV (za9E [] [] [] []) b0 (.tup (.cons (.int .i64 (.lit 2)) (.cons (.int .i64 (.lit 1)) (.cons (.err (.lit 0)) .nil))))) (za9E [] [] [] []) := by
  simp only [Tree.holds, Sy.holds, AllN, Env.more, za9E, List.cons_append, List.nil_append, List.append_nil, denV, denI, denB, denL, I2.den, VOp.den, List.getD_cons_zero, List.getD_cons_succ, Cst.den, syso, syse, syio, sybo, List.map_nil, List.map_cons, B2.ofInts, B2.denI, B2.denB, if_true, Bool.false_eq_true, if_false, Nat.div_one, Nat.mul_one, Nat.add_zero, holds] at hc
  simp only [patsTyp, patTyp, patTypL, za9E, denV, denL, List.getD_cons_zero, List.getD_cons_succ, and_true, true_and] at hty
  unfold mid_tree
  simp only [Tree.holds, Sy.holds, AllN, Env.more, za9E, List.cons_append, List.nil_append, List.append_nil, denV, denI, denB, denL, I2.den, VOp.den, List.getD_cons_zero, List.getD_cons_succ, Cst.den, syso, syse, syio, sybo, za9i_sa, List.map_nil, List.map_cons, B2.ofInts, B2.denI, B2.denB, if_true, Bool.false_eq_true, if_false, Nat.div_one, Nat.mul_one, Nat.add_zero]
  have s0 := q_sz0
  have s2 := q_sz2
  have f0 := q_fe
  first
  | (exfalso; omega)
  | rfl
theorem za9g_mid : za9c_mid.Good Tryz.prog syG (za9E [] [] [] []) := good_of_walk (Γ := ⟨[za9c_spck, zuc_subsat], syG, [], [], []⟩) (ρ := za9E [] [] [] []) sym mid_w rfl (fun _ _ _ _ => (ok_cons (Con.Good.env za9g_spck _ _ _ _) (ok_cons (Con.Good.env (Con.Good.up (Con.Good.up zug_subsat zyup rfl) za9up rfl) _ _ _ _) ok_nil))) (fun hc hty => mid_h  hc hty)
def set_tree : Tree :=
 (.ret (.tup (.cons (.agg (.cons (.int .u32 (.lit 2147483648)) (.cons (.int .i64 (.lit 31)) (.cons (.int .i64 (.lit 0)) (.cons (.int .i64 (.lit 0)) (.cons (.int .i64 (.lit 0)) (.cons (.int .i64 (.lit 0)) (.cons (.int .i64 (.lit 5)) (.cons (.bool (.tt true)) (.cons (.int .i64 (.lit 4)) (.cons (.int .i64 (.lit 2)) (.cons (.int .i64 (.lit 1)) (.cons (.int .i64 (.lit 0)) (.cons (.int .i64 (.lit 0)) .nil)))))))))))))) (.cons (.cst .nilI) .nil))))
abbrev za9c_set : Con := ⟨36, [(.agg (.cons (.int .u32 (.lit 2147483648)) (.cons (.int .i64 (.lit 31)) (.cons (.int .i64 (.lit 0)) (.cons (.int .i64 (.lit 0)) (.cons (.int .i64 (.lit 0)) (.cons (.int .i64 (.lit 0)) (.cons (.int .i64 (.lit 5)) (.cons (.bool (.tt false)) (.cons (.int .i64 (.lit 0)) (.cons (.int .i64 (.lit 0)) (.cons (.int .i64 (.lit 0)) (.cons (.int .i64 (.lit 0)) (.cons (.int .i64 (.lit 0)) .nil)))))))))))))), (.int .i64 (.lit 4)), (.agg (.cons (.int .i64 (.lit 1)) (.cons (.int .i64 (.lit 3)) .nil)))], (.tt true), (.tup (.cons (.agg (.cons (.int .u32 (.lit 2147483648)) (.cons (.int .i64 (.lit 31)) (.cons (.int .i64 (.lit 0)) (.cons (.int .i64 (.lit 0)) (.cons (.int .i64 (.lit 0)) (.cons (.int .i64 (.lit 0)) (.cons (.int .i64 (.lit 5)) (.cons (.bool (.tt true)) (.cons (.int .i64 (.lit 4)) (.cons (.int .i64 (.lit 2)) (.cons (.int .i64 (.lit 1)) (.cons (.int .i64 (.lit 0)) (.cons (.int .i64 (.lit 0)) .nil)))))))))))))) (.cons (.err (.lit 0)) .nil))), ⟨0, 0, 0, 0⟩, none⟩
theorem set_w : walk Tryz.prog 81 ⟨[za9c_mid], syG, [], [], []⟩ [] .v za9c_set za9c_set.n 3000 = some set_tree := by kernel_rfl
theorem set_h  (hc : holds (za9E [] [] [] []) (.tt true)) (hty : patsTyp (za9E [] [] [] []) [(.agg (.cons (.int .u32 (.lit 2147483648)) (.cons (.int .i64 (.lit 31)) (.cons (.int .i64 (.lit 0)) (.cons (.int .i64 (.lit 0)) (.cons (.int .i64 (.lit 0)) (.cons (.int .i64 (.lit 0)) (.cons (.int .i64 (.lit 5)) (.cons (.bool (.tt false)) (.cons (.int .i64 (.lit 0)) (.cons (.int .i64 (.lit 0)) (.cons (.int .i64 (.lit 0)) (.cons (.int .i64 (.lit 0)) (.cons (.int .i64 (.lit 0)) .nil)))))))))))))), (.int .i64 (.lit 4)), (.agg (.cons (.int .i64 (.lit 1)) (.cons (.int .i64 (.lit 3)) .nil)))]) : set_tree.holds (fun v_ => v_ = denV (za9E [] [] [] []) b0 (.tup (.cons (.agg (.cons (.int .u32 (.lit 2147483648)) (.cons (.int .i64 (.lit 31)) (.cons (.int .i64 (.lit 0)) (.cons (.int .i64 (.lit 0)) (.cons (.int .i64 (.lit 0)) (.cons (.int .i64 (.lit 0)) (.cons (.int .i64 (.lit 5)) (.cons (.bool (.tt true)) (.cons (.int .i64 (.lit 4)) (.cons (.int .i64 (.lit 2)) (.cons (.int .i64 (.lit 1)) (.cons (.int .i64 (.lit 0)) (.cons (.int .i64 (.lit 0)) .nil)))))))))))))) (.cons (.err (.lit 0)) .nil)))) (za9E [] [] [] []) := by
  simp only [Tree.holds, Sy.holds, AllN, Env.more, za9E, List.cons_append, List.nil_append, List.append_nil, denV, denI, denB, denL, I2.den, VOp.den, List.getD_cons_zero, List.getD_cons_succ, Cst.den, syso, syse, syio, sybo, List.map_nil, List.map_cons, B2.ofInts, B2.denI, B2.denB, if_true, Bool.false_eq_true, if_false, Nat.div_one, Nat.mul_one, Nat.add_zero, holds] at hc
  simp only [patsTyp, patTyp, patTypL, za9E, denV, denL, List.getD_cons_zero, List.getD_cons_succ, and_true, true_and] at hty
  unfold set_tree
  simp only [Tree.holds, Sy.holds, AllN, Env.more, za9E, List.cons_append, List.nil_append, List.append_nil, denV, denI, denB, denL, I2.den, VOp.den, List.getD_cons_zero, List.getD_cons_succ, Cst.den, syso, syse, syio, sybo, List.map_nil, List.map_cons, B2.ofInts, B2.denI, B2.denB, if_true, Bool.false_eq_true, if_false, Nat.div_one, Nat.mul_one, Nat.add_zero]
  have s0 := q_sz0
  have s2 := q_sz2
  have f0 := q_fe
  first
  | (exfalso; omega)
  | rfl
theorem za9g_set : za9c_set.Good Tryz.prog syG (za9E [] [] [] []) := good_of_walk (Γ := ⟨[za9c_mid], syG, [], [], []⟩) (ρ := za9E [] [] [] []) sym set_w rfl (fun _ _ _ _ => (ok_cons (Con.Good.env za9g_mid _ _ _ _) ok_nil)) (fun hc hty => set_h  hc hty)
def sync_tree : Tree :=
 (.ret (.tup (.cons (.agg (.cons (.int .u32 (.lit 2147483648)) (.cons (.int .i64 (.lit 31)) (.cons (.int .i64 (.lit 0)) (.cons (.int .i64 (.lit 0)) (.cons (.int .i64 (.lit 0)) (.cons (.int .i64 (.lit 0)) (.cons (.int .i64 (.lit 5)) (.cons (.bool (.tt true)) (.cons (.int .i64 (.lit 4)) (.cons (.int .i64 (.lit 2)) (.cons (.int .i64 (.lit 1)) (.cons (.int .i64 (.lit 0)) (.cons (.int .i64 (.lit 0)) .nil)))))))))))))) (.cons (.err (.lit 0)) .nil))))
abbrev za9c_sync : Con := ⟨14, [(.agg (.cons (.int .u32 (.lit 2147483648)) (.cons (.int .i64 (.lit 31)) (.cons (.int .i64 (.lit 0)) (.cons (.int .i64 (.lit 0)) (.cons (.int .i64 (.lit 0)) (.cons (.int .i64 (.lit 0)) (.cons (.int .i64 (.lit 5)) (.cons (.bool (.tt false)) (.cons (.int .i64 (.lit 0)) (.cons (.int .i64 (.lit 0)) (.cons (.int .i64 (.lit 0)) (.cons (.int .i64 (.lit 0)) (.cons (.int .i64 (.lit 0)) .nil)))))))))))))), (.int .i64 (.lit 4)), (.agg (.cons (.int .i64 (.lit 1)) (.cons (.int .i64 (.lit 3)) .nil)))], (.tt true), (.tup (.cons (.agg (.cons (.int .u32 (.lit 2147483648)) (.cons (.int .i64 (.lit 31)) (.cons (.int .i64 (.lit 0)) (.cons (.int .i64 (.lit 0)) (.cons (.int .i64 (.lit 0)) (.cons (.int .i64 (.lit 0)) (.cons (.int .i64 (.lit 5)) (.cons (.bool (.tt true)) (.cons (.int .i64 (.lit 4)) (.cons (.int .i64 (.lit 2)) (.cons (.int .i64 (.lit 1)) (.cons (.int .i64 (.lit 0)) (.cons (.int .i64 (.lit 0)) .nil)))))))))))))) (.cons (.err (.lit 0)) .nil))), ⟨0, 0, 0, 0⟩, none⟩
theorem sync_w : walk Tryz.prog 81 ⟨[za9c_hck0, za9c_spck, za9c_set], syG, [], [], []⟩ [] .v za9c_sync za9c_sync.n 3000 = some sync_tree := by kernel_rfl
theorem sync_h  (hc : holds (za9E [] [] [] []) (.tt true)) (hty : patsTyp (za9E [] [] [] []) [(.agg (.cons (.int .u32 (.lit 2147483648)) (.cons (.int .i64 (.lit 31)) (.cons (.int .i64 (.lit 0)) (.cons (.int .i64 (.lit 0)) (.cons (.int .i64 (.lit 0)) (.cons (.int .i64 (.lit 0)) (.cons (.int .i64 (.lit 5)) (.cons (.bool (.tt false)) (.cons (.int .i64 (.lit 0)) (.cons (.int .i64 (.lit 0)) (.cons (.int .i64 (.lit 0)) (.cons (.int .i64 (.lit 0)) (.cons (.int .i64 (.lit 0)) .nil)))))))))))))), (.int .i64 (.lit 4)), (.agg (.cons (.int .i64 (.lit 1)) (.cons (.int .i64 (.lit 3)) .nil)))]) : sync_tree.holds (fun v_ => v_ = denV (za9E [] [] [] []) b0 (.tup (.cons (.agg (.cons (.int .u32 (.lit 2147483648)) (.cons (.int .i64 (.lit 31)) (.cons (.int .i64 (.lit 0)) (.cons (.int .i64 (.lit 0)) (.cons (.int .i64 (.lit 0)) (.cons (.int .i64 (.lit 0)) (.cons (.int .i64 (.lit 5)) (.cons (.bool (.tt true)) (.cons (.int .i64 (.lit 4)) (.cons (.int .i64 (.lit 2)) (.cons (.int .i64 (.lit 1)) (.cons (.int .i64 (.lit 0)) (.cons (.int .i64 (.lit 0)) .nil)))))))))))))) (.cons (.err (.lit 0)) .nil)))) (za9E [] [] [] []) := by
  simp only [Tree.holds, Sy.holds, AllN, Env.more, za9E, List.cons_append, List.nil_append, List.append_nil, denV, denI, denB, denL, I2.den, VOp.den, List.getD_cons_zero, List.getD_cons_succ, Cst.den, syso, syse, syio, sybo, List.map_nil, List.map_cons, B2.ofInts, B2.denI, B2.denB, if_true, Bool.false_eq_true, if_false, Nat.div_one, Nat.mul_one, Nat.add_zero, holds] at hc
  simp only [patsTyp, patTyp, patTypL, za9E, denV, denL, List.getD_cons_zero, List.getD_cons_succ, and_true, true_and] at hty
  unfold sync_tree
  simp only [Tree.holds, Sy.holds, AllN, Env.more, za9E, List.cons_append, List.nil_append, List.append_nil, denV, denI, denB, denL, I2.den, VOp.den, List.getD_cons_zero, List.getD_cons_succ, Cst.den, syso, syse, syio, sybo, List.map_nil, List.map_cons, B2.ofInts, B2.denI, B2.denB, if_true, Bool.false_eq_true, if_false, Nat.div_one, Nat.mul_one, Nat.add_zero]
  done
theorem za9g_sync : za9c_sync.Good Tryz.prog syG (za9E [] [] [] []) := good_of_walk (Γ := ⟨[za9c_hck0, za9c_spck, za9c_set], syG, [], [], []⟩) (ρ := za9E [] [] [] []) sym sync_w rfl (fun _ _ _ _ => (ok_cons (Con.Good.env za9g_hck0 _ _ _ _) (ok_cons (Con.Good.env za9g_spck _ _ _ _) (ok_cons (Con.Good.env za9g_set _ _ _ _) ok_nil)))) (fun hc hty => sync_h  hc hty)
def clamp_tree : Tree :=
 (.ret (.int .i64 (.lit 0)))
abbrev za9c_clamp : Con := ⟨71, [(.int .i64 (.lit 0)), (.int .i64 (.lit (-1073741824))), (.int .i64 (.lit 1073741824))], (.tt true), (.int .i64 (.lit 0)), ⟨0, 0, 0, 0⟩, none⟩
theorem clamp_w : walk Tryz.prog 81 ⟨[], syG, [], [], []⟩ [] .v za9c_clamp za9c_clamp.n 3000 = some clamp_tree := by kernel_rfl
theorem clamp_h  (hc : holds (za9E [] [] [] []) (.tt true)) (hty : patsTyp (za9E [] [] [] []) [(.int .i64 (.lit 0)), (.int .i64 (.lit (-1073741824))), (.int .i64 (.lit 1073741824))]) : clamp_tree.holds (fun v_ => v_ = denV (za9E [] [] [] []) b0 (.int .i64 (.lit 0))) (za9E [] [] [] []) := by
  simp only [Tree.holds, Sy.holds, AllN, Env.more, za9E, List.cons_append, List.nil_append, List.append_nil, denV, denI, denB, denL, I2.den, VOp.den, List.getD_cons_zero, List.getD_cons_succ, Cst.den, syso, syse, syio, sybo, List.map_nil, List.map_cons, B2.ofInts, B2.denI, B2.denB, if_true, Bool.false_eq_true, if_false, Nat.div_one, Nat.mul_one, Nat.add_zero, holds] at hc
  simp only [patsTyp, patTyp, patTypL, za9E, denV, denL, List.getD_cons_zero, List.getD_cons_succ, and_true, true_and] at hty
  unfold clamp_tree
  simp only [Tree.holds, Sy.holds, AllN, Env.more, za9E, List.cons_append, List.nil_append, List.append_nil, denV, denI, denB, denL, I2.den, VOp.den, List.getD_cons_zero, List.getD_cons_succ, Cst.den, syso, syse, syio, sybo, List.map_nil, List.map_cons, B2.ofInts, B2.denI, B2.denB, if_true, Bool.false_eq_true, if_false, Nat.div_one, Nat.mul_one, Nat.add_zero]
  done
theorem za9g_clamp : za9c_clamp.Good Tryz.prog syG (za9E [] [] [] []) := good_of_walk (Γ := ⟨[], syG, [], [], []⟩) (ρ := za9E [] [] [] []) sym clamp_w rfl (fun _ _ _ _ => ok_nil) (fun hc hty => clamp_h  hc hty)
def adj_tree : Tree :=
 (.br (.not (eq_ (.iapp 23 (.cons (.int .u32 (.lit 2147483648)) (.cons (.int .i64 (.lit 31)) .nil))) (.lit 0)))
 (.ret (.tup (.cons (.agg (.cons (.int .u32 (.lit 0)) (.cons (.int .i64 (.lit 0)) .nil))) (.cons (.err (.iapp 23 (.cons (.int .u32 (.lit 2147483648)) (.cons (.int .i64 (.lit 31)) .nil)))) .nil))))
 (.ret (.tup (.cons (.agg (.cons (.int .u32 (.lit 2147483648)) (.cons (.int .i64 (.lit 31)) .nil))) (.cons (.cst .nilI) .nil)))))
abbrev za9c_adj : Con := ⟨75, [(.agg (.cons (.int .u32 (.lit 2147483648)) (.cons (.int .i64 (.lit 31)) .nil))), (.int .i64 (.lit 0))], (.tt true), (.tup (.cons (.agg (.cons (.int .u32 (.lit 2147483648)) (.cons (.int .i64 (.lit 31)) .nil))) (.cons (.err (.lit 0)) .nil))), ⟨0, 0, 0, 0⟩, none⟩
theorem adj_w : walk Tryz.prog 81 ⟨[zuc_rcheck, za9c_clamp], syG, [], [], []⟩ [] .v za9c_adj za9c_adj.n 3000 = some adj_tree := by kernel_rfl
theorem adj_h  (hc : holds (za9E [] [] [] []) (.tt true)) (hty : patsTyp (za9E [] [] [] []) [(.agg (.cons (.int .u32 (.lit 2147483648)) (.cons (.int .i64 (.lit 31)) .nil))), (.int .i64 (.lit 0))]) : adj_tree.holds (fun v_ => v_ = denV (za9E [] [] [] []) b0 (.tup (.cons (.agg (.cons (.int .u32 (.lit 2147483648)) (.cons (.int .i64 (.lit 31)) .nil))) (.cons (.err (.lit 0)) .nil)))) (za9E [] [] [] []) := by
  simp only [Tree.holds, Sy.holds, AllN, Env.more, za9E, List.cons_append, List.nil_append, List.append_nil, denV, denI, denB, denL, I2.den, VOp.den, List.getD_cons_zero, List.getD_cons_succ, Cst.den, syso, syse, syio, sybo, List.map_nil, List.map_cons, B2.ofInts, B2.denI, B2.denB, if_true, Bool.false_eq_true, if_false, Nat.div_one, Nat.mul_one, Nat.add_zero, holds] at hc
  simp only [patsTyp, patTyp, patTypL, za9E, denV, denL, List.getD_cons_zero, List.getD_cons_succ, and_true, true_and] at hty
  unfold adj_tree
  simp only [Tree.holds, Sy.holds, AllN, Env.more, za9E, List.cons_append, List.nil_append, List.append_nil, denV, denI, denB, denL, I2.den, VOp.den, List.getD_cons_zero, List.getD_cons_succ, Cst.den, syso, syse, syio, sybo, za9i_fe, List.map_nil, List.map_cons, B2.ofInts, B2.denI, B2.denB, if_true, Bool.false_eq_true, if_false, Nat.div_one, Nat.mul_one, Nat.add_zero]
  have s0 := q_sz0
  have s2 := q_sz2
  have f0 := q_fe
  refine ⟨fun h0 => ?_, fun h0 => ?_⟩
  ·
   first
   | (exfalso; omega)
   | rfl
  ·
   first
   | (exfalso; omega)
   | rfl
theorem za9g_adj : za9c_adj.Good Tryz.prog syG (za9E [] [] [] []) := good_of_walk (Γ := ⟨[zuc_rcheck, za9c_clamp], syG, [], [], []⟩) (ρ := za9E [] [] [] []) sym adj_w rfl (fun _ _ _ _ => (ok_cons (Con.Good.env (Con.Good.up (Con.Good.up zug_rcheck zyup rfl) za9up rfl) _ _ _ _) (ok_cons (Con.Good.env za9g_clamp _ _ _ _) ok_nil))) (fun hc hty => adj_h  hc hty)
def hfac_tree : Tree :=
 (.ret (.tup (.cons (.agg (.cons (.int .u32 (.lit 2147483648)) (.cons (.int .i64 (.lit 31)) .nil))) (.cons (.err (.lit 0)) .nil))))
abbrev za9c_hfac : Con := ⟨43, [(.agg (.cons (.int .u32 (.lit 2147483648)) (.cons (.int .i64 (.lit 31)) (.cons (.int .i64 (.lit 0)) (.cons (.int .i64 (.lit 0)) (.cons (.int .i64 (.lit 0)) (.cons (.int .i64 (.lit 0)) (.cons (.int .i64 (.lit 5)) (.cons (.bool (.tt true)) (.cons (.int .i64 (.lit 4)) (.cons (.int .i64 (.lit 2)) (.cons (.int .i64 (.lit 1)) (.cons (.int .i64 (.lit 0)) (.cons (.int .i64 (.lit 0)) .nil))))))))))))))], (.tt true), (.tup (.cons (.agg (.cons (.int .u32 (.lit 2147483648)) (.cons (.int .i64 (.lit 31)) .nil))) (.cons (.err (.lit 0)) .nil))), ⟨0, 0, 0, 0⟩, none⟩
theorem hfac_w : walk Tryz.prog 81 ⟨[za9c_hck1, za9c_adj], syG, [], [], []⟩ [] .v za9c_hfac za9c_hfac.n 3000 = some hfac_tree := by kernel_rfl
theorem hfac_h  (hc : holds (za9E [] [] [] []) (.tt true)) (hty : patsTyp (za9E [] [] [] []) [(.agg (.cons (.int .u32 (.lit 2147483648)) (.cons (.int .i64 (.lit 31)) (.cons (.int .i64 (.lit 0)) (.cons (.int .i64 (.lit 0)) (.cons (.int .i64 (.lit 0)) (.cons (.int .i64 (.lit 0)) (.cons (.int .i64 (.lit 5)) (.cons (.bool (.tt true)) (.cons (.int .i64 (.lit 4)) (.cons (.int .i64 (.lit 2)) (.cons (.int .i64 (.lit 1)) (.cons (.int .i64 (.lit 0)) (.cons (.int .i64 (.lit 0)) .nil))))))))))))))]) : hfac_tree.holds (fun v_ => v_ = denV (za9E [] [] [] []) b0 (.tup (.cons (.agg (.cons (.int .u32 (.lit 2147483648)) (.cons (.int .i64 (.lit 31)) .nil))) (.cons (.err (.lit 0)) .nil)))) (za9E [] [] [] []) := by
  simp only [Tree.holds, Sy.holds, AllN, Env.more, za9E, List.cons_append, List.nil_append, List.append_nil, denV, denI, denB, denL, I2.den, VOp.den, List.getD_cons_zero, List.getD_cons_succ, Cst.den, syso, syse, syio, sybo, List.map_nil, List.map_cons, B2.ofInts, B2.denI, B2.denB, if_true, Bool.false_eq_true, if_false, Nat.div_one, Nat.mul_one, Nat.add_zero, holds] at hc
  simp only [patsTyp, patTyp, patTypL, za9E, denV, denL, List.getD_cons_zero, List.getD_cons_succ, and_true, true_and] at hty
  unfold hfac_tree
  simp only [Tree.holds, Sy.holds, AllN, Env.more, za9E, List.cons_append, List.nil_append, List.append_nil, denV, denI, denB, denL, I2.den, VOp.den, List.getD_cons_zero, List.getD_cons_succ, Cst.den, syso, syse, syio, sybo, List.map_nil, List.map_cons, B2.ofInts, B2.denI, B2.denB, if_true, Bool.false_eq_true, if_false, Nat.div_one, Nat.mul_one, Nat.add_zero]
  done
theorem za9g_hfac : za9c_hfac.Good Tryz.prog syG (za9E [] [] [] []) := good_of_walk (Γ := ⟨[za9c_hck1, za9c_adj], syG, [], [], []⟩) (ρ := za9E [] [] [] []) sym hfac_w rfl (fun _ _ _ _ => (ok_cons (Con.Good.env za9g_hck1 _ _ _ _) (ok_cons (Con.Good.env za9g_adj _ _ _ _) ok_nil))) (fun hc hty => hfac_h  hc hty)
def of_tree : Tree :=
 (.ret (.tup (.cons (.agg (.cons (.int .i64 (.lit 2)) (.cons (.int .i64 (.lit 4)) (.cons (.int .i64 (.lit 2)) (.cons (.int .i64 (.lit 1)) (.cons (.int .u32 (.lit 2147483648)) (.cons (.int .i64 (.lit 31)) (.cons (.int .u32 (.lit 2147483648)) (.cons (.int .i64 (.lit 31)) (.cons (.int .i64 (wr_ (ad_ (.lit 0) (.iapp 19 (.cons (.int .i64 (.lit 0)) .nil))))) (.cons (.int .i64 (.lit 8)) .nil))))))))))) (.cons (.cst .nilI) .nil))))
abbrev za9c_of : Con := ⟨15, [(.agg (.cons (.int .u32 (.lit 2147483648)) (.cons (.int .i64 (.lit 31)) (.cons (.int .i64 (.lit 0)) (.cons (.int .i64 (.lit 0)) (.cons (.int .i64 (.lit 0)) (.cons (.int .i64 (.lit 0)) (.cons (.int .i64 (.lit 5)) (.cons (.bool (.tt true)) (.cons (.int .i64 (.lit 4)) (.cons (.int .i64 (.lit 2)) (.cons (.int .i64 (.lit 1)) (.cons (.int .i64 (.lit 0)) (.cons (.int .i64 (.lit 0)) .nil)))))))))))))), (.int .i64 (.lit 2)), (.int .i64 (.lit 8))], (.tt true), (.tup (.cons (.agg (.cons (.int .i64 (.lit 2)) (.cons (.int .i64 (.lit 4)) (.cons (.int .i64 (.lit 2)) (.cons (.int .i64 (.lit 1)) (.cons (.int .u32 (.lit 2147483648)) (.cons (.int .i64 (.lit 31)) (.cons (.int .u32 (.lit 2147483648)) (.cons (.int .i64 (.lit 31)) (.cons (.int .i64 (.lit 0)) (.cons (.int .i64 (.lit 8)) .nil))))))))))) (.cons (.err (.lit 0)) .nil))), ⟨0, 0, 0, 0⟩, none⟩
theorem of_w : walk Tryz.prog 81 ⟨[za9c_hck1, za9c_hfac, zuc_size], syG, [], [], []⟩ [] .v za9c_of za9c_of.n 3000 = some of_tree := by kernel_rfl
theorem of_h  (hc : holds (za9E [] [] [] []) (.tt true)) (hty : patsTyp (za9E [] [] [] []) [(.agg (.cons (.int .u32 (.lit 2147483648)) (.cons (.int .i64 (.lit 31)) (.cons (.int .i64 (.lit 0)) (.cons (.int .i64 (.lit 0)) (.cons (.int .i64 (.lit 0)) (.cons (.int .i64 (.lit 0)) (.cons (.int .i64 (.lit 5)) (.cons (.bool (.tt true)) (.cons (.int .i64 (.lit 4)) (.cons (.int .i64 (.lit 2)) (.cons (.int .i64 (.lit 1)) (.cons (.int .i64 (.lit 0)) (.cons (.int .i64 (.lit 0)) .nil)))))))))))))), (.int .i64 (.lit 2)), (.int .i64 (.lit 8))]) : of_tree.holds (fun v_ => v_ = denV (za9E [] [] [] []) b0 (.tup (.cons (.agg (.cons (.int .i64 (.lit 2)) (.cons (.int .i64 (.lit 4)) (.cons (.int .i64 (.lit 2)) (.cons (.int .i64 (.lit 1)) (.cons (.int .u32 (.lit 2147483648)) (.cons (.int .i64 (.lit 31)) (.cons (.int .u32 (.lit 2147483648)) (.cons (.int .i64 (.lit 31)) (.cons (.int .i64 (.lit 0)) (.cons (.int .i64 (.lit 8)) .nil))))))))))) (.cons (.err (.lit 0)) .nil)))) (za9E [] [] [] []) := by
  simp only [Tree.holds, Sy.holds, AllN, Env.more, za9E, List.cons_append, List.nil_append, List.append_nil, denV, denI, denB, denL, I2.den, VOp.den, List.getD_cons_zero, List.getD_cons_succ, Cst.den, syso, syse, syio, sybo, List.map_nil, List.map_cons, B2.ofInts, B2.denI, B2.denB, if_true, Bool.false_eq_true, if_false, Nat.div_one, Nat.mul_one, Nat.add_zero, holds] at hc
  simp only [patsTyp, patTyp, patTypL, za9E, denV, denL, List.getD_cons_zero, List.getD_cons_succ, and_true, true_and] at hty
  unfold of_tree
  simp only [Tree.holds, Sy.holds, AllN, Env.more, za9E, List.cons_append, List.nil_append, List.append_nil, denV, denI, denB, denL, I2.den, VOp.den, List.getD_cons_zero, List.getD_cons_succ, Cst.den, syso, syse, syio, sybo, za9i_sz, List.map_nil, List.map_cons, B2.ofInts, B2.denI, B2.denB, if_true, Bool.false_eq_true, if_false, Nat.div_one, Nat.mul_one, Nat.add_zero]
  have s0 := q_sz0
  have s2 := q_sz2
  have f0 := q_fe
  have wf0 := wr_i64 (0 + (szE 0))
  first
  | (exfalso; omega)
  | rfl
theorem za9g_of : za9c_of.Good Tryz.prog syG (za9E [] [] [] []) := good_of_walk (Γ := ⟨[za9c_hck1, za9c_hfac, zuc_size], syG, [], [], []⟩) (ρ := za9E [] [] [] []) sym of_w rfl (fun _ _ _ _ => (ok_cons (Con.Good.env za9g_hck1 _ _ _ _) (ok_cons (Con.Good.env za9g_hfac _ _ _ _) (ok_cons (Con.Good.env (Con.Good.up (Con.Good.up zug_size zyup rfl) za9up rfl) _ _ _ _) ok_nil)))) (fun hc hty => of_h  hc hty)
def read7_tree : Tree :=
 (.ret (.tup (.cons (.agg (.cons (.int .i64 (.lit 0)) (.cons (.int .i64 (.lit 0)) (.cons (.int .i64 (.lit 0)) (.cons (.int .i64 (.lit 0)) (.cons (.int .u32 (.lit 0)) (.cons (.int .i64 (.lit 0)) (.cons (.int .u32 (.lit 0)) (.cons (.int .i64 (.lit 0)) (.cons (.int .i64 (.lit 0)) (.cons (.int .i64 (.lit 0)) .nil))))))))))) (.cons (.iface 81 (.int .i64 (.lit 15))) .nil))))
abbrev za9c_read7 : Con := ⟨13, [(.agg (.cons (.int .u64 (.lit 7)) (.cons (.int .u64 (.iapp 26 (.cons (.tup (.cons (.int .i64 (.lit 3)) (.cons (.int .i64 (.lit 5)) (.cons (.int .i64 (.lit (-7))) (.cons (.int .i64 (.lit 9)) (.cons (.int .u32 (.lit 2147483648)) (.cons (.int .i64 (.lit 31)) (.cons (.int .u32 (.lit 2147483648)) (.cons (.int .i64 (.lit 31)) (.cons (.int .i64 (.lit 11)) (.cons (.int .i64 (.lit 100)) .nil))))))))))) (.cons (.int .u64 (.lit 6)) (.cons (.int .i64 (.lit 1)) .nil))))) (.cons (.int .u64 (.iapp 26 (.cons (.tup (.cons (.int .i64 (.lit 3)) (.cons (.int .i64 (.lit 5)) (.cons (.int .i64 (.lit (-7))) (.cons (.int .i64 (.lit 9)) (.cons (.int .u32 (.lit 2147483648)) (.cons (.int .i64 (.lit 31)) (.cons (.int .u32 (.lit 2147483648)) (.cons (.int .i64 (.lit 31)) (.cons (.int .i64 (.lit 11)) (.cons (.int .i64 (.lit 100)) .nil))))))))))) (.cons (.int .u64 (.lit 6)) (.cons (.int .i64 (.lit 2)) .nil))))) (.cons (.int .u64 (.iapp 26 (.cons (.tup (.cons (.int .i64 (.lit 3)) (.cons (.int .i64 (.lit 5)) (.cons (.int .i64 (.lit (-7))) (.cons (.int .i64 (.lit 9)) (.cons (.int .u32 (.lit 2147483648)) (.cons (.int .i64 (.lit 31)) (.cons (.int .u32 (.lit 2147483648)) (.cons (.int .i64 (.lit 31)) (.cons (.int .i64 (.lit 11)) (.cons (.int .i64 (.lit 100)) .nil))))))))))) (.cons (.int .u64 (.lit 6)) (.cons (.int .i64 (.lit 3)) .nil))))) (.cons (.int .u64 (.iapp 26 (.cons (.tup (.cons (.int .i64 (.lit 3)) (.cons (.int .i64 (.lit 5)) (.cons (.int .i64 (.lit (-7))) (.cons (.int .i64 (.lit 9)) (.cons (.int .u32 (.lit 2147483648)) (.cons (.int .i64 (.lit 31)) (.cons (.int .u32 (.lit 2147483648)) (.cons (.int .i64 (.lit 31)) (.cons (.int .i64 (.lit 11)) (.cons (.int .i64 (.lit 100)) .nil))))))))))) (.cons (.int .u64 (.lit 6)) (.cons (.int .i64 (.lit 4)) .nil))))) (.cons (.int .u64 (.iapp 26 (.cons (.tup (.cons (.int .i64 (.lit 3)) (.cons (.int .i64 (.lit 5)) (.cons (.int .i64 (.lit (-7))) (.cons (.int .i64 (.lit 9)) (.cons (.int .u32 (.lit 2147483648)) (.cons (.int .i64 (.lit 31)) (.cons (.int .u32 (.lit 2147483648)) (.cons (.int .i64 (.lit 31)) (.cons (.int .i64 (.lit 11)) (.cons (.int .i64 (.lit 100)) .nil))))))))))) (.cons (.int .u64 (.lit 6)) (.cons (.int .i64 (.lit 5)) .nil))))) (.cons (.int .u64 (.iapp 26 (.cons (.tup (.cons (.int .i64 (.lit 3)) (.cons (.int .i64 (.lit 5)) (.cons (.int .i64 (.lit (-7))) (.cons (.int .i64 (.lit 9)) (.cons (.int .u32 (.lit 2147483648)) (.cons (.int .i64 (.lit 31)) (.cons (.int .u32 (.lit 2147483648)) (.cons (.int .i64 (.lit 31)) (.cons (.int .i64 (.lit 11)) (.cons (.int .i64 (.lit 100)) .nil))))))))))) (.cons (.int .u64 (.lit 6)) (.cons (.int .i64 (.lit 6)) .nil))))) (.cons (.int .u64 (.iapp 26 (.cons (.tup (.cons (.int .i64 (.lit 3)) (.cons (.int .i64 (.lit 5)) (.cons (.int .i64 (.lit (-7))) (.cons (.int .i64 (.lit 9)) (.cons (.int .u32 (.lit 2147483648)) (.cons (.int .i64 (.lit 31)) (.cons (.int .u32 (.lit 2147483648)) (.cons (.int .i64 (.lit 31)) (.cons (.int .i64 (.lit 11)) (.cons (.int .i64 (.lit 100)) .nil))))))))))) (.cons (.int .u64 (.lit 6)) (.cons (.int .i64 (.lit 7)) .nil))))) (.cons (.int .u64 (.iapp 26 (.cons (.tup (.cons (.int .i64 (.lit 3)) (.cons (.int .i64 (.lit 5)) (.cons (.int .i64 (.lit (-7))) (.cons (.int .i64 (.lit 9)) (.cons (.int .u32 (.lit 2147483648)) (.cons (.int .i64 (.lit 31)) (.cons (.int .u32 (.lit 2147483648)) (.cons (.int .i64 (.lit 31)) (.cons (.int .i64 (.lit 11)) (.cons (.int .i64 (.lit 100)) .nil))))))))))) (.cons (.int .u64 (.lit 6)) (.cons (.int .i64 (.lit 8)) .nil))))) (.cons (.int .u64 (.iapp 26 (.cons (.tup (.cons (.int .i64 (.lit 3)) (.cons (.int .i64 (.lit 5)) (.cons (.int .i64 (.lit (-7))) (.cons (.int .i64 (.lit 9)) (.cons (.int .u32 (.lit 2147483648)) (.cons (.int .i64 (.lit 31)) (.cons (.int .u32 (.lit 2147483648)) (.cons (.int .i64 (.lit 31)) (.cons (.int .i64 (.lit 11)) (.cons (.int .i64 (.lit 100)) .nil))))))))))) (.cons (.int .u64 (.lit 6)) (.cons (.int .i64 (.lit 9)) .nil))))) (.cons (.int .u64 (.iapp 26 (.cons (.tup (.cons (.int .i64 (.lit 3)) (.cons (.int .i64 (.lit 5)) (.cons (.int .i64 (.lit (-7))) (.cons (.int .i64 (.lit 9)) (.cons (.int .u32 (.lit 2147483648)) (.cons (.int .i64 (.lit 31)) (.cons (.int .u32 (.lit 2147483648)) (.cons (.int .i64 (.lit 31)) (.cons (.int .i64 (.lit 11)) (.cons (.int .i64 (.lit 100)) .nil))))))))))) (.cons (.int .u64 (.lit 6)) (.cons (.int .i64 (.lit 10)) .nil))))) (.cons (.int .u64 (.iapp 26 (.cons (.tup (.cons (.int .i64 (.lit 3)) (.cons (.int .i64 (.lit 5)) (.cons (.int .i64 (.lit (-7))) (.cons (.int .i64 (.lit 9)) (.cons (.int .u32 (.lit 2147483648)) (.cons (.int .i64 (.lit 31)) (.cons (.int .u32 (.lit 2147483648)) (.cons (.int .i64 (.lit 31)) (.cons (.int .i64 (.lit 11)) (.cons (.int .i64 (.lit 100)) .nil))))))))))) (.cons (.int .u64 (.lit 6)) (.cons (.int .i64 (.lit 11)) .nil))))) (.cons (.int .u64 (.iapp 26 (.cons (.tup (.cons (.int .i64 (.lit 3)) (.cons (.int .i64 (.lit 5)) (.cons (.int .i64 (.lit (-7))) (.cons (.int .i64 (.lit 9)) (.cons (.int .u32 (.lit 2147483648)) (.cons (.int .i64 (.lit 31)) (.cons (.int .u32 (.lit 2147483648)) (.cons (.int .i64 (.lit 31)) (.cons (.int .i64 (.lit 11)) (.cons (.int .i64 (.lit 100)) .nil))))))))))) (.cons (.int .u64 (.lit 6)) (.cons (.int .i64 (.lit 12)) .nil))))) (.cons (.int .u64 (.iapp 26 (.cons (.tup (.cons (.int .i64 (.lit 3)) (.cons (.int .i64 (.lit 5)) (.cons (.int .i64 (.lit (-7))) (.cons (.int .i64 (.lit 9)) (.cons (.int .u32 (.lit 2147483648)) (.cons (.int .i64 (.lit 31)) (.cons (.int .u32 (.lit 2147483648)) (.cons (.int .i64 (.lit 31)) (.cons (.int .i64 (.lit 11)) (.cons (.int .i64 (.lit 100)) .nil))))))))))) (.cons (.int .u64 (.lit 6)) (.cons (.int .i64 (.lit 13)) .nil))))) (.cons (.int .u64 (.iapp 26 (.cons (.tup (.cons (.int .i64 (.lit 3)) (.cons (.int .i64 (.lit 5)) (.cons (.int .i64 (.lit (-7))) (.cons (.int .i64 (.lit 9)) (.cons (.int .u32 (.lit 2147483648)) (.cons (.int .i64 (.lit 31)) (.cons (.int .u32 (.lit 2147483648)) (.cons (.int .i64 (.lit 31)) (.cons (.int .i64 (.lit 11)) (.cons (.int .i64 (.lit 100)) .nil))))))))))) (.cons (.int .u64 (.lit 6)) (.cons (.int .i64 (.lit 14)) .nil))))) (.cons (.int .u64 (.iapp 26 (.cons (.tup (.cons (.int .i64 (.lit 3)) (.cons (.int .i64 (.lit 5)) (.cons (.int .i64 (.lit (-7))) (.cons (.int .i64 (.lit 9)) (.cons (.int .u32 (.lit 2147483648)) (.cons (.int .i64 (.lit 31)) (.cons (.int .u32 (.lit 2147483648)) (.cons (.int .i64 (.lit 31)) (.cons (.int .i64 (.lit 11)) (.cons (.int .i64 (.lit 100)) .nil))))))))))) (.cons (.int .u64 (.lit 6)) (.cons (.int .i64 (.lit 15)) .nil))))) .nil)))))))))))))))))], (.tt true), (.tup (.cons (.agg (.cons (.int .i64 (.lit 0)) (.cons (.int .i64 (.lit 0)) (.cons (.int .i64 (.lit 0)) (.cons (.int .i64 (.lit 0)) (.cons (.int .u32 (.lit 0)) (.cons (.int .i64 (.lit 0)) (.cons (.int .u32 (.lit 0)) (.cons (.int .i64 (.lit 0)) (.cons (.int .i64 (.lit 0)) (.cons (.int .i64 (.lit 0)) .nil))))))))))) (.cons (.err (.lit 15)) .nil))), ⟨0, 0, 0, 0⟩, none⟩
theorem read7_w : walk Tryz.prog 81 ⟨[], syG, [], [], []⟩ [] .v za9c_read7 za9c_read7.n 3000 = some read7_tree := by kernel_rfl
theorem read7_h  (hc : holds (za9E [] [] [] []) (.tt true)) (hty : patsTyp (za9E [] [] [] []) [(.agg (.cons (.int .u64 (.lit 7)) (.cons (.int .u64 (.iapp 26 (.cons (.tup (.cons (.int .i64 (.lit 3)) (.cons (.int .i64 (.lit 5)) (.cons (.int .i64 (.lit (-7))) (.cons (.int .i64 (.lit 9)) (.cons (.int .u32 (.lit 2147483648)) (.cons (.int .i64 (.lit 31)) (.cons (.int .u32 (.lit 2147483648)) (.cons (.int .i64 (.lit 31)) (.cons (.int .i64 (.lit 11)) (.cons (.int .i64 (.lit 100)) .nil))))))))))) (.cons (.int .u64 (.lit 6)) (.cons (.int .i64 (.lit 1)) .nil))))) (.cons (.int .u64 (.iapp 26 (.cons (.tup (.cons (.int .i64 (.lit 3)) (.cons (.int .i64 (.lit 5)) (.cons (.int .i64 (.lit (-7))) (.cons (.int .i64 (.lit 9)) (.cons (.int .u32 (.lit 2147483648)) (.cons (.int .i64 (.lit 31)) (.cons (.int .u32 (.lit 2147483648)) (.cons (.int .i64 (.lit 31)) (.cons (.int .i64 (.lit 11)) (.cons (.int .i64 (.lit 100)) .nil))))))))))) (.cons (.int .u64 (.lit 6)) (.cons (.int .i64 (.lit 2)) .nil))))) (.cons (.int .u64 (.iapp 26 (.cons (.tup (.cons (.int .i64 (.lit 3)) (.cons (.int .i64 (.lit 5)) (.cons (.int .i64 (.lit (-7))) (.cons (.int .i64 (.lit 9)) (.cons (.int .u32 (.lit 2147483648)) (.cons (.int .i64 (.lit 31)) (.cons (.int .u32 (.lit 2147483648)) (.cons (.int .i64 (.lit 31)) (.cons (.int .i64 (.lit 11)) (.cons (.int .i64 (.lit 100)) .nil))))))))))) (.cons (.int .u64 (.lit 6)) (.cons (.int .i64 (.lit 3)) .nil))))) (.cons (.int .u64 (.iapp 26 (.cons (.tup (.cons (.int .i64 (.lit 3)) (.cons (.int .i64 (.lit 5)) (.cons (.int .i64 (.lit (-7))) (.cons (.int .i64 (.lit 9)) (.cons (.int .u32 (.lit 2147483648)) (.cons (.int .i64 (.lit 31)) (.cons (.int .u32 (.lit 2147483648)) (.cons (.int .i64 (.lit 31)) (.cons (.int .i64 (.lit 11)) (.cons (.int .i64 (.lit 100)) .nil))))))))))) (.cons (.int .u64 (.lit 6)) (.cons (.int .i64 (.lit 4)) .nil))))) (.cons (.int .u64 (.iapp 26 (.cons (.tup (.cons (.int .i64 (.lit 3)) (.cons (.int .i64 (.lit 5)) (.cons (.int .i64 (.lit (-7))) (.cons (.int .i64 (.lit 9)) (.cons (.int .u32 (.lit 2147483648)) (.cons (.int .i64 (.lit 31)) (.cons (.int .u32 (.lit 2147483648)) (.cons (.int .i64 (.lit 31)) (.cons (.int .i64 (.lit 11)) (.cons (.int .i64 (.lit 100)) .nil))))))))))) (.cons (.int .u64 (.lit 6)) (.cons (.int .i64 (.lit 5)) .nil))))) (.cons (.int .u64 (.iapp 26 (.cons (.tup (.cons (.int .i64 (.lit 3)) (.cons (.int .i64 (.lit 5)) (.cons (.int .i64 (.lit (-7))) (.cons (.int .i64 (.lit 9)) (.cons (.int .u32 (.lit 2147483648)) (.cons (.int .i64 (.lit 31)) (.cons (.int .u32 (.lit 2147483648)) (.cons (.int .i64 (.lit 31)) (.cons (.int .i64 (.lit 11)) (.cons (.int .i64 (.lit 100)) .nil))))))))))) (.cons (.int .u64 (.lit 6)) (.cons (.int .i64 (.lit 6)) .nil))))) (.cons (.int .u64 (.iapp 26 (.cons (.tup (.cons (.int .i64 (.lit 3)) (.cons (.int .i64 (.lit 5)) (.cons (.int .i64 (.lit (-7))) (.cons (.int .i64 (.lit 9)) (.cons (.int .u32 (.lit 2147483648)) (.cons (.int .i64 (.lit 31)) (.cons (.int .u32 (.lit 2147483648)) (.cons (.int .i64 (.lit 31)) (.cons (.int .i64 (.lit 11)) (.cons (.int .i64 (.lit 100)) .nil))))))))))) (.cons (.int .u64 (.lit 6)) (.cons (.int .i64 (.lit 7)) .nil))))) (.cons (.int .u64 (.iapp 26 (.cons (.tup (.cons (.int .i64 (.lit 3)) (.cons (.int .i64 (.lit 5)) (.cons (.int .i64 (.lit (-7))) (.cons (.int .i64 (.lit 9)) (.cons (.int .u32 (.lit 2147483648)) (.cons (.int .i64 (.lit 31)) (.cons (.int .u32 (.lit 2147483648)) (.cons (.int .i64 (.lit 31)) (.cons (.int .i64 (.lit 11)) (.cons (.int .i64 (.lit 100)) .nil))))))))))) (.cons (.int .u64 (.lit 6)) (.cons (.int .i64 (.lit 8)) .nil))))) (.cons (.int .u64 (.iapp 26 (.cons (.tup (.cons (.int .i64 (.lit 3)) (.cons (.int .i64 (.lit 5)) (.cons (.int .i64 (.lit (-7))) (.cons (.int .i64 (.lit 9)) (.cons (.int .u32 (.lit 2147483648)) (.cons (.int .i64 (.lit 31)) (.cons (.int .u32 (.lit 2147483648)) (.cons (.int .i64 (.lit 31)) (.cons (.int .i64 (.lit 11)) (.cons (.int .i64 (.lit 100)) .nil))))))))))) (.cons (.int .u64 (.lit 6)) (.cons (.int .i64 (.lit 9)) .nil))))) (.cons (.int .u64 (.iapp 26 (.cons (.tup (.cons (.int .i64 (.lit 3)) (.cons (.int .i64 (.lit 5)) (.cons (.int .i64 (.lit (-7))) (.cons (.int .i64 (.lit 9)) (.cons (.int .u32 (.lit 2147483648)) (.cons (.int .i64 (.lit 31)) (.cons (.int .u32 (.lit 2147483648)) (.cons (.int .i64 (.lit 31)) (.cons (.int .i64 (.lit 11)) (.cons (.int .i64 (.lit 100)) .nil))))))))))) (.cons (.int .u64 (.lit 6)) (.cons (.int .i64 (.lit 10)) .nil))))) (.cons (.int .u64 (.iapp 26 (.cons (.tup (.cons (.int .i64 (.lit 3)) (.cons (.int .i64 (.lit 5)) (.cons (.int .i64 (.lit (-7))) (.cons (.int .i64 (.lit 9)) (.cons (.int .u32 (.lit 2147483648)) (.cons (.int .i64 (.lit 31)) (.cons (.int .u32 (.lit 2147483648)) (.cons (.int .i64 (.lit 31)) (.cons (.int .i64 (.lit 11)) (.cons (.int .i64 (.lit 100)) .nil))))))))))) (.cons (.int .u64 (.lit 6)) (.cons (.int .i64 (.lit 11)) .nil))))) (.cons (.int .u64 (.iapp 26 (.cons (.tup (.cons (.int .i64 (.lit 3)) (.cons (.int .i64 (.lit 5)) (.cons (.int .i64 (.lit (-7))) (.cons (.int .i64 (.lit 9)) (.cons (.int .u32 (.lit 2147483648)) (.cons (.int .i64 (.lit 31)) (.cons (.int .u32 (.lit 2147483648)) (.cons (.int .i64 (.lit 31)) (.cons (.int .i64 (.lit 11)) (.cons (.int .i64 (.lit 100)) .nil))))))))))) (.cons (.int .u64 (.lit 6)) (.cons (.int .i64 (.lit 12)) .nil))))) (.cons (.int .u64 (.iapp 26 (.cons (.tup (.cons (.int .i64 (.lit 3)) (.cons (.int .i64 (.lit 5)) (.cons (.int .i64 (.lit (-7))) (.cons (.int .i64 (.lit 9)) (.cons (.int .u32 (.lit 2147483648)) (.cons (.int .i64 (.lit 31)) (.cons (.int .u32 (.lit 2147483648)) (.cons (.int .i64 (.lit 31)) (.cons (.int .i64 (.lit 11)) (.cons (.int .i64 (.lit 100)) .nil))))))))))) (.cons (.int .u64 (.lit 6)) (.cons (.int .i64 (.lit 13)) .nil))))) (.cons (.int .u64 (.iapp 26 (.cons (.tup (.cons (.int .i64 (.lit 3)) (.cons (.int .i64 (.lit 5)) (.cons (.int .i64 (.lit (-7))) (.cons (.int .i64 (.lit 9)) (.cons (.int .u32 (.lit 2147483648)) (.cons (.int .i64 (.lit 31)) (.cons (.int .u32 (.lit 2147483648)) (.cons (.int .i64 (.lit 31)) (.cons (.int .i64 (.lit 11)) (.cons (.int .i64 (.lit 100)) .nil))))))))))) (.cons (.int .u64 (.lit 6)) (.cons (.int .i64 (.lit 14)) .nil))))) (.cons (.int .u64 (.iapp 26 (.cons (.tup (.cons (.int .i64 (.lit 3)) (.cons (.int .i64 (.lit 5)) (.cons (.int .i64 (.lit (-7))) (.cons (.int .i64 (.lit 9)) (.cons (.int .u32 (.lit 2147483648)) (.cons (.int .i64 (.lit 31)) (.cons (.int .u32 (.lit 2147483648)) (.cons (.int .i64 (.lit 31)) (.cons (.int .i64 (.lit 11)) (.cons (.int .i64 (.lit 100)) .nil))))))))))) (.cons (.int .u64 (.lit 6)) (.cons (.int .i64 (.lit 15)) .nil))))) .nil)))))))))))))))))]) : read7_tree.holds (fun v_ => v_ = denV (za9E [] [] [] []) b0 (.tup (.cons (.agg (.cons (.int .i64 (.lit 0)) (.cons (.int .i64 (.lit 0)) (.cons (.int .i64 (.lit 0)) (.cons (.int .i64 (.lit 0)) (.cons (.int .u32 (.lit 0)) (.cons (.int .i64 (.lit 0)) (.cons (.int .u32 (.lit 0)) (.cons (.int .i64 (.lit 0)) (.cons (.int .i64 (.lit 0)) (.cons (.int .i64 (.lit 0)) .nil))))))))))) (.cons (.err (.lit 15)) .nil)))) (za9E [] [] [] []) := by
  simp only [Tree.holds, Sy.holds, AllN, Env.more, za9E, List.cons_append, List.nil_append, List.append_nil, denV, denI, denB, denL, I2.den, VOp.den, List.getD_cons_zero, List.getD_cons_succ, Cst.den, syso, syse, syio, sybo, List.map_nil, List.map_cons, B2.ofInts, B2.denI, B2.denB, if_true, Bool.false_eq_true, if_false, Nat.div_one, Nat.mul_one, Nat.add_zero, holds] at hc
  simp only [patsTyp, patTyp, patTypL, za9E, denV, denL, List.getD_cons_zero, List.getD_cons_succ, and_true, true_and] at hty
  unfold read7_tree
  simp only [Tree.holds, Sy.holds, AllN, Env.more, za9E, List.cons_append, List.nil_append, List.append_nil, denV, denI, denB, denL, I2.den, VOp.den, List.getD_cons_zero, List.getD_cons_succ, Cst.den, syso, syse, syio, sybo, List.map_nil, List.map_cons, B2.ofInts, B2.denI, B2.denB, if_true, Bool.false_eq_true, if_false, Nat.div_one, Nat.mul_one, Nat.add_zero]
  have s0 := q_sz0
  have s2 := q_sz2
  have f0 := q_fe
  first
  | (exfalso; omega)
  | rfl
theorem za9g_read7 : za9c_read7.Good Tryz.prog syG (za9E [] [] [] []) := good_of_walk (Γ := ⟨[], syG, [], [], []⟩) (ρ := za9E [] [] [] []) sym read7_w rfl (fun _ _ _ _ => ok_nil) (fun hc hty => read7_h  hc hty)
def read6_x0 : Tm := (.tup (.cons (.int .i64 (.lit 3)) (.cons (.int .i64 (.lit 5)) (.cons (.int .i64 (.lit (-7))) (.cons (.int .i64 (.lit 9)) (.cons (.int .u32 (.lit 2147483648)) (.cons (.int .i64 (.lit 31)) (.cons (.int .u32 (.lit 2147483648)) (.cons (.int .i64 (.lit 31)) (.cons (.int .i64 (.lit 11)) (.cons (.int .i64 (.lit 100)) .nil)))))))))))
def read6_x1 : Tm := (.tup (.cons (.int .i64 (wr_ (.iapp 26 (.cons read6_x0 (.cons (.int .u64 (.lit 6)) (.cons (.int .i64 (.lit 1)) .nil)))))) (.cons (.int .i64 (wr_ (.iapp 26 (.cons read6_x0 (.cons (.int .u64 (.lit 6)) (.cons (.int .i64 (.lit 2)) .nil)))))) (.cons (.int .i64 (wr_ (.iapp 26 (.cons read6_x0 (.cons (.int .u64 (.lit 6)) (.cons (.int .i64 (.lit 3)) .nil)))))) (.cons (.int .i64 (wr_ (.iapp 26 (.cons read6_x0 (.cons (.int .u64 (.lit 6)) (.cons (.int .i64 (.lit 4)) .nil)))))) (.cons (.int .u32 (.wrap .u32 (wr_ (.iapp 26 (.cons read6_x0 (.cons (.int .u64 (.lit 6)) (.cons (.int .i64 (.lit 5)) .nil))))))) (.cons (.int .i64 (wr_ (.iapp 26 (.cons read6_x0 (.cons (.int .u64 (.lit 6)) (.cons (.int .i64 (.lit 6)) .nil)))))) (.cons (.int .u32 (.wrap .u32 (wr_ (.iapp 26 (.cons read6_x0 (.cons (.int .u64 (.lit 6)) (.cons (.int .i64 (.lit 7)) .nil))))))) (.cons (.int .i64 (wr_ (.iapp 26 (.cons read6_x0 (.cons (.int .u64 (.lit 6)) (.cons (.int .i64 (.lit 8)) .nil)))))) (.cons (.int .i64 (wr_ (.iapp 26 (.cons read6_x0 (.cons (.int .u64 (.lit 6)) (.cons (.int .i64 (.lit 9)) .nil)))))) (.cons (.int .i64 (wr_ (.iapp 26 (.cons read6_x0 (.cons (.int .u64 (.lit 6)) (.cons (.int .i64 (.lit 10)) .nil)))))) .nil)))))))))))
def read6_x2 : Tm := (.int .u64 (.iapp 26 (.cons read6_x0 (.cons (.int .u64 (.lit 6)) (.cons (.int .i64 (.lit 0)) .nil)))))
def read6_x3 : Tm := (.agg (.cons (.int .i64 (.lit 0)) (.cons (.int .i64 (.lit 0)) (.cons (.int .i64 (.lit 0)) (.cons (.int .i64 (.lit 0)) (.cons (.int .u32 (.lit 0)) (.cons (.int .i64 (.lit 0)) (.cons (.int .u32 (.lit 0)) (.cons (.int .i64 (.lit 0)) (.cons (.int .i64 (.lit 0)) (.cons (.int .i64 (.lit 0)) .nil)))))))))))
def read6_tree : Tree :=
 (.br (eq_ (.i2 .rem (.iapp 26 (.cons read6_x0 (.cons (.int .u64 (.lit 6)) (.cons (.int .i64 (.lit 0)) .nil)))) (.lit 2)) (.lit 1))
 (.ret (.tup (.cons read6_x3 (.cons (.iface 81 (.int .i64 (.lit 15))) .nil))))
 (.need (an_ (an_ (le_ (.lit 0) (.iapp 26 (.cons read6_x0 (.cons (.int .u64 (.lit 6)) (.cons (.int .i64 (.lit 1)) .nil))))) (le_ (.iapp 26 (.cons read6_x0 (.cons (.int .u64 (.lit 6)) (.cons (.int .i64 (.lit 1)) .nil)))) (.lit 18446744073709551615))) (an_ (an_ (le_ (.lit 0) (.iapp 26 (.cons read6_x0 (.cons (.int .u64 (.lit 6)) (.cons (.int .i64 (.lit 2)) .nil))))) (le_ (.iapp 26 (.cons read6_x0 (.cons (.int .u64 (.lit 6)) (.cons (.int .i64 (.lit 2)) .nil)))) (.lit 18446744073709551615))) (an_ (an_ (le_ (.lit 0) (.iapp 26 (.cons read6_x0 (.cons (.int .u64 (.lit 6)) (.cons (.int .i64 (.lit 3)) .nil))))) (le_ (.iapp 26 (.cons read6_x0 (.cons (.int .u64 (.lit 6)) (.cons (.int .i64 (.lit 3)) .nil)))) (.lit 18446744073709551615))) (an_ (an_ (le_ (.lit 0) (.iapp 26 (.cons read6_x0 (.cons (.int .u64 (.lit 6)) (.cons (.int .i64 (.lit 4)) .nil))))) (le_ (.iapp 26 (.cons read6_x0 (.cons (.int .u64 (.lit 6)) (.cons (.int .i64 (.lit 4)) .nil)))) (.lit 18446744073709551615))) (an_ (an_ (le_ (.lit 0) (.iapp 26 (.cons read6_x0 (.cons (.int .u64 (.lit 6)) (.cons (.int .i64 (.lit 5)) .nil))))) (le_ (.iapp 26 (.cons read6_x0 (.cons (.int .u64 (.lit 6)) (.cons (.int .i64 (.lit 5)) .nil)))) (.lit 18446744073709551615))) (an_ (an_ (le_ (.lit 0) (.iapp 26 (.cons read6_x0 (.cons (.int .u64 (.lit 6)) (.cons (.int .i64 (.lit 6)) .nil))))) (le_ (.iapp 26 (.cons read6_x0 (.cons (.int .u64 (.lit 6)) (.cons (.int .i64 (.lit 6)) .nil)))) (.lit 18446744073709551615))) (an_ (an_ (le_ (.lit 0) (.iapp 26 (.cons read6_x0 (.cons (.int .u64 (.lit 6)) (.cons (.int .i64 (.lit 7)) .nil))))) (le_ (.iapp 26 (.cons read6_x0 (.cons (.int .u64 (.lit 6)) (.cons (.int .i64 (.lit 7)) .nil)))) (.lit 18446744073709551615))) (an_ (an_ (le_ (.lit 0) (.iapp 26 (.cons read6_x0 (.cons (.int .u64 (.lit 6)) (.cons (.int .i64 (.lit 8)) .nil))))) (le_ (.iapp 26 (.cons read6_x0 (.cons (.int .u64 (.lit 6)) (.cons (.int .i64 (.lit 8)) .nil)))) (.lit 18446744073709551615))) (an_ (an_ (le_ (.lit 0) (.iapp 26 (.cons read6_x0 (.cons (.int .u64 (.lit 6)) (.cons (.int .i64 (.lit 9)) .nil))))) (le_ (.iapp 26 (.cons read6_x0 (.cons (.int .u64 (.lit 6)) (.cons (.int .i64 (.lit 9)) .nil)))) (.lit 18446744073709551615))) (an_ (an_ (le_ (.lit 0) (.iapp 26 (.cons read6_x0 (.cons (.int .u64 (.lit 6)) (.cons (.int .i64 (.lit 10)) .nil))))) (le_ (.iapp 26 (.cons read6_x0 (.cons (.int .u64 (.lit 6)) (.cons (.int .i64 (.lit 10)) .nil)))) (.lit 18446744073709551615))) (an_ (an_ (le_ (.lit 0) (.iapp 26 (.cons read6_x0 (.cons (.int .u64 (.lit 6)) (.cons (.int .i64 (.lit 11)) .nil))))) (le_ (.iapp 26 (.cons read6_x0 (.cons (.int .u64 (.lit 6)) (.cons (.int .i64 (.lit 11)) .nil)))) (.lit 18446744073709551615))) (an_ (an_ (le_ (.lit 0) (.iapp 26 (.cons read6_x0 (.cons (.int .u64 (.lit 6)) (.cons (.int .i64 (.lit 12)) .nil))))) (le_ (.iapp 26 (.cons read6_x0 (.cons (.int .u64 (.lit 6)) (.cons (.int .i64 (.lit 12)) .nil)))) (.lit 18446744073709551615))) (an_ (an_ (le_ (.lit 0) (.iapp 26 (.cons read6_x0 (.cons (.int .u64 (.lit 6)) (.cons (.int .i64 (.lit 13)) .nil))))) (le_ (.iapp 26 (.cons read6_x0 (.cons (.int .u64 (.lit 6)) (.cons (.int .i64 (.lit 13)) .nil)))) (.lit 18446744073709551615))) (an_ (le_ (.lit 0) (.iapp 26 (.cons read6_x0 (.cons (.int .u64 (.lit 6)) (.cons (.int .i64 (.lit 14)) .nil))))) (le_ (.iapp 26 (.cons read6_x0 (.cons (.int .u64 (.lit 6)) (.cons (.int .i64 (.lit 14)) .nil)))) (.lit 18446744073709551615))))))))))))))))
 (.br (.not (eq_ (.iapp 26 (.cons read6_x0 (.cons (.int .u64 (.lit 6)) (.cons (.int .i64 (.lit 15)) .nil)))) (.iapp 25 (.cons (.tup (.cons (.int .u64 (.iapp 26 (.cons read6_x0 (.cons (.int .u64 (.lit 6)) (.cons (.int .i64 (.lit 1)) .nil))))) (.cons (.int .u64 (.iapp 26 (.cons read6_x0 (.cons (.int .u64 (.lit 6)) (.cons (.int .i64 (.lit 2)) .nil))))) (.cons (.int .u64 (.iapp 26 (.cons read6_x0 (.cons (.int .u64 (.lit 6)) (.cons (.int .i64 (.lit 3)) .nil))))) (.cons (.int .u64 (.iapp 26 (.cons read6_x0 (.cons (.int .u64 (.lit 6)) (.cons (.int .i64 (.lit 4)) .nil))))) (.cons (.int .u64 (.iapp 26 (.cons read6_x0 (.cons (.int .u64 (.lit 6)) (.cons (.int .i64 (.lit 5)) .nil))))) (.cons (.int .u64 (.iapp 26 (.cons read6_x0 (.cons (.int .u64 (.lit 6)) (.cons (.int .i64 (.lit 6)) .nil))))) (.cons (.int .u64 (.iapp 26 (.cons read6_x0 (.cons (.int .u64 (.lit 6)) (.cons (.int .i64 (.lit 7)) .nil))))) (.cons (.int .u64 (.iapp 26 (.cons read6_x0 (.cons (.int .u64 (.lit 6)) (.cons (.int .i64 (.lit 8)) .nil))))) (.cons (.int .u64 (.iapp 26 (.cons read6_x0 (.cons (.int .u64 (.lit 6)) (.cons (.int .i64 (.lit 9)) .nil))))) (.cons (.int .u64 (.iapp 26 (.cons read6_x0 (.cons (.int .u64 (.lit 6)) (.cons (.int .i64 (.lit 10)) .nil))))) (.cons (.int .u64 (.iapp 26 (.cons read6_x0 (.cons (.int .u64 (.lit 6)) (.cons (.int .i64 (.lit 11)) .nil))))) (.cons (.int .u64 (.iapp 26 (.cons read6_x0 (.cons (.int .u64 (.lit 6)) (.cons (.int .i64 (.lit 12)) .nil))))) (.cons (.int .u64 (.iapp 26 (.cons read6_x0 (.cons (.int .u64 (.lit 6)) (.cons (.int .i64 (.lit 13)) .nil))))) (.cons (.int .u64 (.iapp 26 (.cons read6_x0 (.cons (.int .u64 (.lit 6)) (.cons (.int .i64 (.lit 14)) .nil))))) .nil))))))))))))))) .nil))))
 (.ret (.tup (.cons read6_x3 (.cons (.iface 81 (.int .i64 (.lit 4))) .nil))))
 (.need (an_ (an_ (an_ (le_ lm_ (wr_ (.iapp 26 (.cons read6_x0 (.cons (.int .u64 (.lit 6)) (.cons (.int .i64 (.lit 1)) .nil)))))) (le_ (wr_ (.iapp 26 (.cons read6_x0 (.cons (.int .u64 (.lit 6)) (.cons (.int .i64 (.lit 1)) .nil))))) lM_)) (an_ (an_ (le_ lm_ (wr_ (.iapp 26 (.cons read6_x0 (.cons (.int .u64 (.lit 6)) (.cons (.int .i64 (.lit 2)) .nil)))))) (le_ (wr_ (.iapp 26 (.cons read6_x0 (.cons (.int .u64 (.lit 6)) (.cons (.int .i64 (.lit 2)) .nil))))) lM_)) (an_ (an_ (le_ lm_ (wr_ (.iapp 26 (.cons read6_x0 (.cons (.int .u64 (.lit 6)) (.cons (.int .i64 (.lit 3)) .nil)))))) (le_ (wr_ (.iapp 26 (.cons read6_x0 (.cons (.int .u64 (.lit 6)) (.cons (.int .i64 (.lit 3)) .nil))))) lM_)) (an_ (an_ (le_ lm_ (wr_ (.iapp 26 (.cons read6_x0 (.cons (.int .u64 (.lit 6)) (.cons (.int .i64 (.lit 4)) .nil)))))) (le_ (wr_ (.iapp 26 (.cons read6_x0 (.cons (.int .u64 (.lit 6)) (.cons (.int .i64 (.lit 4)) .nil))))) lM_)) (an_ (an_ (le_ (.lit 0) (.wrap .u32 (wr_ (.iapp 26 (.cons read6_x0 (.cons (.int .u64 (.lit 6)) (.cons (.int .i64 (.lit 5)) .nil))))))) (le_ (.wrap .u32 (wr_ (.iapp 26 (.cons read6_x0 (.cons (.int .u64 (.lit 6)) (.cons (.int .i64 (.lit 5)) .nil)))))) (.lit 4294967295))) (an_ (an_ (le_ lm_ (wr_ (.iapp 26 (.cons read6_x0 (.cons (.int .u64 (.lit 6)) (.cons (.int .i64 (.lit 6)) .nil)))))) (le_ (wr_ (.iapp 26 (.cons read6_x0 (.cons (.int .u64 (.lit 6)) (.cons (.int .i64 (.lit 6)) .nil))))) lM_)) (an_ (an_ (le_ (.lit 0) (.wrap .u32 (wr_ (.iapp 26 (.cons read6_x0 (.cons (.int .u64 (.lit 6)) (.cons (.int .i64 (.lit 7)) .nil))))))) (le_ (.wrap .u32 (wr_ (.iapp 26 (.cons read6_x0 (.cons (.int .u64 (.lit 6)) (.cons (.int .i64 (.lit 7)) .nil)))))) (.lit 4294967295))) (an_ (an_ (le_ lm_ (wr_ (.iapp 26 (.cons read6_x0 (.cons (.int .u64 (.lit 6)) (.cons (.int .i64 (.lit 8)) .nil)))))) (le_ (wr_ (.iapp 26 (.cons read6_x0 (.cons (.int .u64 (.lit 6)) (.cons (.int .i64 (.lit 8)) .nil))))) lM_)) (an_ (an_ (le_ lm_ (wr_ (.iapp 26 (.cons read6_x0 (.cons (.int .u64 (.lit 6)) (.cons (.int .i64 (.lit 9)) .nil)))))) (le_ (wr_ (.iapp 26 (.cons read6_x0 (.cons (.int .u64 (.lit 6)) (.cons (.int .i64 (.lit 9)) .nil))))) lM_)) (an_ (le_ lm_ (wr_ (.iapp 26 (.cons read6_x0 (.cons (.int .u64 (.lit 6)) (.cons (.int .i64 (.lit 10)) .nil)))))) (le_ (wr_ (.iapp 26 (.cons read6_x0 (.cons (.int .u64 (.lit 6)) (.cons (.int .i64 (.lit 10)) .nil))))) lM_))))))))))) (an_ (.bapp 5 (.cons read6_x1 .nil)) (an_ (le_ (.lit 0) (.iapp 26 (.cons read6_x0 (.cons (.int .u64 (.lit 6)) (.cons (.int .i64 (.lit 0)) .nil))))) (le_ (.iapp 26 (.cons read6_x0 (.cons (.int .u64 (.lit 6)) (.cons (.int .i64 (.lit 0)) .nil)))) (.lit 18446744073709551615)))))
 (.br (.not (an_ (eq_ (.iapp 26 (.cons read6_x1 (.cons read6_x2 (.cons (.int .i64 (.lit 0)) .nil)))) (.iapp 26 (.cons read6_x0 (.cons (.int .u64 (.lit 6)) (.cons (.int .i64 (.lit 0)) .nil))))) (an_ (eq_ (.iapp 26 (.cons read6_x1 (.cons read6_x2 (.cons (.int .i64 (.lit 1)) .nil)))) (.iapp 26 (.cons read6_x0 (.cons (.int .u64 (.lit 6)) (.cons (.int .i64 (.lit 1)) .nil))))) (an_ (eq_ (.iapp 26 (.cons read6_x1 (.cons read6_x2 (.cons (.int .i64 (.lit 2)) .nil)))) (.iapp 26 (.cons read6_x0 (.cons (.int .u64 (.lit 6)) (.cons (.int .i64 (.lit 2)) .nil))))) (an_ (eq_ (.iapp 26 (.cons read6_x1 (.cons read6_x2 (.cons (.int .i64 (.lit 3)) .nil)))) (.iapp 26 (.cons read6_x0 (.cons (.int .u64 (.lit 6)) (.cons (.int .i64 (.lit 3)) .nil))))) (an_ (eq_ (.iapp 26 (.cons read6_x1 (.cons read6_x2 (.cons (.int .i64 (.lit 4)) .nil)))) (.iapp 26 (.cons read6_x0 (.cons (.int .u64 (.lit 6)) (.cons (.int .i64 (.lit 4)) .nil))))) (an_ (eq_ (.iapp 26 (.cons read6_x1 (.cons read6_x2 (.cons (.int .i64 (.lit 5)) .nil)))) (.iapp 26 (.cons read6_x0 (.cons (.int .u64 (.lit 6)) (.cons (.int .i64 (.lit 5)) .nil))))) (an_ (eq_ (.iapp 26 (.cons read6_x1 (.cons read6_x2 (.cons (.int .i64 (.lit 6)) .nil)))) (.iapp 26 (.cons read6_x0 (.cons (.int .u64 (.lit 6)) (.cons (.int .i64 (.lit 6)) .nil))))) (an_ (eq_ (.iapp 26 (.cons read6_x1 (.cons read6_x2 (.cons (.int .i64 (.lit 7)) .nil)))) (.iapp 26 (.cons read6_x0 (.cons (.int .u64 (.lit 6)) (.cons (.int .i64 (.lit 7)) .nil))))) (an_ (eq_ (.iapp 26 (.cons read6_x1 (.cons read6_x2 (.cons (.int .i64 (.lit 8)) .nil)))) (.iapp 26 (.cons read6_x0 (.cons (.int .u64 (.lit 6)) (.cons (.int .i64 (.lit 8)) .nil))))) (an_ (eq_ (.iapp 26 (.cons read6_x1 (.cons read6_x2 (.cons (.int .i64 (.lit 9)) .nil)))) (.iapp 26 (.cons read6_x0 (.cons (.int .u64 (.lit 6)) (.cons (.int .i64 (.lit 9)) .nil))))) (an_ (eq_ (.iapp 26 (.cons read6_x1 (.cons read6_x2 (.cons (.int .i64 (.lit 10)) .nil)))) (.iapp 26 (.cons read6_x0 (.cons (.int .u64 (.lit 6)) (.cons (.int .i64 (.lit 10)) .nil))))) (an_ (eq_ (.iapp 26 (.cons read6_x1 (.cons read6_x2 (.cons (.int .i64 (.lit 11)) .nil)))) (.iapp 26 (.cons read6_x0 (.cons (.int .u64 (.lit 6)) (.cons (.int .i64 (.lit 11)) .nil))))) (an_ (eq_ (.iapp 26 (.cons read6_x1 (.cons read6_x2 (.cons (.int .i64 (.lit 12)) .nil)))) (.iapp 26 (.cons read6_x0 (.cons (.int .u64 (.lit 6)) (.cons (.int .i64 (.lit 12)) .nil))))) (an_ (eq_ (.iapp 26 (.cons read6_x1 (.cons read6_x2 (.cons (.int .i64 (.lit 13)) .nil)))) (.iapp 26 (.cons read6_x0 (.cons (.int .u64 (.lit 6)) (.cons (.int .i64 (.lit 13)) .nil))))) (an_ (eq_ (.iapp 26 (.cons read6_x1 (.cons read6_x2 (.cons (.int .i64 (.lit 14)) .nil)))) (.iapp 26 (.cons read6_x0 (.cons (.int .u64 (.lit 6)) (.cons (.int .i64 (.lit 14)) .nil))))) (eq_ (.iapp 26 (.cons read6_x1 (.cons read6_x2 (.cons (.int .i64 (.lit 15)) .nil)))) (.iapp 26 (.cons read6_x0 (.cons (.int .u64 (.lit 6)) (.cons (.int .i64 (.lit 15)) .nil)))))))))))))))))))))
 (.ret (.tup (.cons read6_x3 (.cons (.iface 81 (.int .i64 (.lit 3))) .nil))))
 (.ret (.tup (.cons (.agg (.cons (.int .i64 (wr_ (.iapp 26 (.cons read6_x0 (.cons (.int .u64 (.lit 6)) (.cons (.int .i64 (.lit 1)) .nil)))))) (.cons (.int .i64 (wr_ (.iapp 26 (.cons read6_x0 (.cons (.int .u64 (.lit 6)) (.cons (.int .i64 (.lit 2)) .nil)))))) (.cons (.int .i64 (wr_ (.iapp 26 (.cons read6_x0 (.cons (.int .u64 (.lit 6)) (.cons (.int .i64 (.lit 3)) .nil)))))) (.cons (.int .i64 (wr_ (.iapp 26 (.cons read6_x0 (.cons (.int .u64 (.lit 6)) (.cons (.int .i64 (.lit 4)) .nil)))))) (.cons (.int .u32 (.wrap .u32 (wr_ (.iapp 26 (.cons read6_x0 (.cons (.int .u64 (.lit 6)) (.cons (.int .i64 (.lit 5)) .nil))))))) (.cons (.int .i64 (wr_ (.iapp 26 (.cons read6_x0 (.cons (.int .u64 (.lit 6)) (.cons (.int .i64 (.lit 6)) .nil)))))) (.cons (.int .u32 (.wrap .u32 (wr_ (.iapp 26 (.cons read6_x0 (.cons (.int .u64 (.lit 6)) (.cons (.int .i64 (.lit 7)) .nil))))))) (.cons (.int .i64 (wr_ (.iapp 26 (.cons read6_x0 (.cons (.int .u64 (.lit 6)) (.cons (.int .i64 (.lit 8)) .nil)))))) (.cons (.int .i64 (wr_ (.iapp 26 (.cons read6_x0 (.cons (.int .u64 (.lit 6)) (.cons (.int .i64 (.lit 9)) .nil)))))) (.cons (.int .i64 (wr_ (.iapp 26 (.cons read6_x0 (.cons (.int .u64 (.lit 6)) (.cons (.int .i64 (.lit 10)) .nil)))))) .nil))))))))))) (.cons (.cst .nilI) .nil)))))))))
abbrev za9c_read6 : Con := ⟨13, [(.agg (.cons (.int .u64 (.iapp 26 (.cons (.tup (.cons (.int .i64 (.lit 3)) (.cons (.int .i64 (.lit 5)) (.cons (.int .i64 (.lit (-7))) (.cons (.int .i64 (.lit 9)) (.cons (.int .u32 (.lit 2147483648)) (.cons (.int .i64 (.lit 31)) (.cons (.int .u32 (.lit 2147483648)) (.cons (.int .i64 (.lit 31)) (.cons (.int .i64 (.lit 11)) (.cons (.int .i64 (.lit 100)) .nil))))))))))) (.cons (.int .u64 (.lit 6)) (.cons (.int .i64 (.lit 0)) .nil))))) (.cons (.int .u64 (.iapp 26 (.cons (.tup (.cons (.int .i64 (.lit 3)) (.cons (.int .i64 (.lit 5)) (.cons (.int .i64 (.lit (-7))) (.cons (.int .i64 (.lit 9)) (.cons (.int .u32 (.lit 2147483648)) (.cons (.int .i64 (.lit 31)) (.cons (.int .u32 (.lit 2147483648)) (.cons (.int .i64 (.lit 31)) (.cons (.int .i64 (.lit 11)) (.cons (.int .i64 (.lit 100)) .nil))))))))))) (.cons (.int .u64 (.lit 6)) (.cons (.int .i64 (.lit 1)) .nil))))) (.cons (.int .u64 (.iapp 26 (.cons (.tup (.cons (.int .i64 (.lit 3)) (.cons (.int .i64 (.lit 5)) (.cons (.int .i64 (.lit (-7))) (.cons (.int .i64 (.lit 9)) (.cons (.int .u32 (.lit 2147483648)) (.cons (.int .i64 (.lit 31)) (.cons (.int .u32 (.lit 2147483648)) (.cons (.int .i64 (.lit 31)) (.cons (.int .i64 (.lit 11)) (.cons (.int .i64 (.lit 100)) .nil))))))))))) (.cons (.int .u64 (.lit 6)) (.cons (.int .i64 (.lit 2)) .nil))))) (.cons (.int .u64 (.iapp 26 (.cons (.tup (.cons (.int .i64 (.lit 3)) (.cons (.int .i64 (.lit 5)) (.cons (.int .i64 (.lit (-7))) (.cons (.int .i64 (.lit 9)) (.cons (.int .u32 (.lit 2147483648)) (.cons (.int .i64 (.lit 31)) (.cons (.int .u32 (.lit 2147483648)) (.cons (.int .i64 (.lit 31)) (.cons (.int .i64 (.lit 11)) (.cons (.int .i64 (.lit 100)) .nil))))))))))) (.cons (.int .u64 (.lit 6)) (.cons (.int .i64 (.lit 3)) .nil))))) (.cons (.int .u64 (.iapp 26 (.cons (.tup (.cons (.int .i64 (.lit 3)) (.cons (.int .i64 (.lit 5)) (.cons (.int .i64 (.lit (-7))) (.cons (.int .i64 (.lit 9)) (.cons (.int .u32 (.lit 2147483648)) (.cons (.int .i64 (.lit 31)) (.cons (.int .u32 (.lit 2147483648)) (.cons (.int .i64 (.lit 31)) (.cons (.int .i64 (.lit 11)) (.cons (.int .i64 (.lit 100)) .nil))))))))))) (.cons (.int .u64 (.lit 6)) (.cons (.int .i64 (.lit 4)) .nil))))) (.cons (.int .u64 (.iapp 26 (.cons (.tup (.cons (.int .i64 (.lit 3)) (.cons (.int .i64 (.lit 5)) (.cons (.int .i64 (.lit (-7))) (.cons (.int .i64 (.lit 9)) (.cons (.int .u32 (.lit 2147483648)) (.cons (.int .i64 (.lit 31)) (.cons (.int .u32 (.lit 2147483648)) (.cons (.int .i64 (.lit 31)) (.cons (.int .i64 (.lit 11)) (.cons (.int .i64 (.lit 100)) .nil))))))))))) (.cons (.int .u64 (.lit 6)) (.cons (.int .i64 (.lit 5)) .nil))))) (.cons (.int .u64 (.iapp 26 (.cons (.tup (.cons (.int .i64 (.lit 3)) (.cons (.int .i64 (.lit 5)) (.cons (.int .i64 (.lit (-7))) (.cons (.int .i64 (.lit 9)) (.cons (.int .u32 (.lit 2147483648)) (.cons (.int .i64 (.lit 31)) (.cons (.int .u32 (.lit 2147483648)) (.cons (.int .i64 (.lit 31)) (.cons (.int .i64 (.lit 11)) (.cons (.int .i64 (.lit 100)) .nil))))))))))) (.cons (.int .u64 (.lit 6)) (.cons (.int .i64 (.lit 6)) .nil))))) (.cons (.int .u64 (.iapp 26 (.cons (.tup (.cons (.int .i64 (.lit 3)) (.cons (.int .i64 (.lit 5)) (.cons (.int .i64 (.lit (-7))) (.cons (.int .i64 (.lit 9)) (.cons (.int .u32 (.lit 2147483648)) (.cons (.int .i64 (.lit 31)) (.cons (.int .u32 (.lit 2147483648)) (.cons (.int .i64 (.lit 31)) (.cons (.int .i64 (.lit 11)) (.cons (.int .i64 (.lit 100)) .nil))))))))))) (.cons (.int .u64 (.lit 6)) (.cons (.int .i64 (.lit 7)) .nil))))) (.cons (.int .u64 (.iapp 26 (.cons (.tup (.cons (.int .i64 (.lit 3)) (.cons (.int .i64 (.lit 5)) (.cons (.int .i64 (.lit (-7))) (.cons (.int .i64 (.lit 9)) (.cons (.int .u32 (.lit 2147483648)) (.cons (.int .i64 (.lit 31)) (.cons (.int .u32 (.lit 2147483648)) (.cons (.int .i64 (.lit 31)) (.cons (.int .i64 (.lit 11)) (.cons (.int .i64 (.lit 100)) .nil))))))))))) (.cons (.int .u64 (.lit 6)) (.cons (.int .i64 (.lit 8)) .nil))))) (.cons (.int .u64 (.iapp 26 (.cons (.tup (.cons (.int .i64 (.lit 3)) (.cons (.int .i64 (.lit 5)) (.cons (.int .i64 (.lit (-7))) (.cons (.int .i64 (.lit 9)) (.cons (.int .u32 (.lit 2147483648)) (.cons (.int .i64 (.lit 31)) (.cons (.int .u32 (.lit 2147483648)) (.cons (.int .i64 (.lit 31)) (.cons (.int .i64 (.lit 11)) (.cons (.int .i64 (.lit 100)) .nil))))))))))) (.cons (.int .u64 (.lit 6)) (.cons (.int .i64 (.lit 9)) .nil))))) (.cons (.int .u64 (.iapp 26 (.cons (.tup (.cons (.int .i64 (.lit 3)) (.cons (.int .i64 (.lit 5)) (.cons (.int .i64 (.lit (-7))) (.cons (.int .i64 (.lit 9)) (.cons (.int .u32 (.lit 2147483648)) (.cons (.int .i64 (.lit 31)) (.cons (.int .u32 (.lit 2147483648)) (.cons (.int .i64 (.lit 31)) (.cons (.int .i64 (.lit 11)) (.cons (.int .i64 (.lit 100)) .nil))))))))))) (.cons (.int .u64 (.lit 6)) (.cons (.int .i64 (.lit 10)) .nil))))) (.cons (.int .u64 (.iapp 26 (.cons (.tup (.cons (.int .i64 (.lit 3)) (.cons (.int .i64 (.lit 5)) (.cons (.int .i64 (.lit (-7))) (.cons (.int .i64 (.lit 9)) (.cons (.int .u32 (.lit 2147483648)) (.cons (.int .i64 (.lit 31)) (.cons (.int .u32 (.lit 2147483648)) (.cons (.int .i64 (.lit 31)) (.cons (.int .i64 (.lit 11)) (.cons (.int .i64 (.lit 100)) .nil))))))))))) (.cons (.int .u64 (.lit 6)) (.cons (.int .i64 (.lit 11)) .nil))))) (.cons (.int .u64 (.iapp 26 (.cons (.tup (.cons (.int .i64 (.lit 3)) (.cons (.int .i64 (.lit 5)) (.cons (.int .i64 (.lit (-7))) (.cons (.int .i64 (.lit 9)) (.cons (.int .u32 (.lit 2147483648)) (.cons (.int .i64 (.lit 31)) (.cons (.int .u32 (.lit 2147483648)) (.cons (.int .i64 (.lit 31)) (.cons (.int .i64 (.lit 11)) (.cons (.int .i64 (.lit 100)) .nil))))))))))) (.cons (.int .u64 (.lit 6)) (.cons (.int .i64 (.lit 12)) .nil))))) (.cons (.int .u64 (.iapp 26 (.cons (.tup (.cons (.int .i64 (.lit 3)) (.cons (.int .i64 (.lit 5)) (.cons (.int .i64 (.lit (-7))) (.cons (.int .i64 (.lit 9)) (.cons (.int .u32 (.lit 2147483648)) (.cons (.int .i64 (.lit 31)) (.cons (.int .u32 (.lit 2147483648)) (.cons (.int .i64 (.lit 31)) (.cons (.int .i64 (.lit 11)) (.cons (.int .i64 (.lit 100)) .nil))))))))))) (.cons (.int .u64 (.lit 6)) (.cons (.int .i64 (.lit 13)) .nil))))) (.cons (.int .u64 (.iapp 26 (.cons (.tup (.cons (.int .i64 (.lit 3)) (.cons (.int .i64 (.lit 5)) (.cons (.int .i64 (.lit (-7))) (.cons (.int .i64 (.lit 9)) (.cons (.int .u32 (.lit 2147483648)) (.cons (.int .i64 (.lit 31)) (.cons (.int .u32 (.lit 2147483648)) (.cons (.int .i64 (.lit 31)) (.cons (.int .i64 (.lit 11)) (.cons (.int .i64 (.lit 100)) .nil))))))))))) (.cons (.int .u64 (.lit 6)) (.cons (.int .i64 (.lit 14)) .nil))))) (.cons (.int .u64 (.iapp 26 (.cons (.tup (.cons (.int .i64 (.lit 3)) (.cons (.int .i64 (.lit 5)) (.cons (.int .i64 (.lit (-7))) (.cons (.int .i64 (.lit 9)) (.cons (.int .u32 (.lit 2147483648)) (.cons (.int .i64 (.lit 31)) (.cons (.int .u32 (.lit 2147483648)) (.cons (.int .i64 (.lit 31)) (.cons (.int .i64 (.lit 11)) (.cons (.int .i64 (.lit 100)) .nil))))))))))) (.cons (.int .u64 (.lit 6)) (.cons (.int .i64 (.lit 15)) .nil))))) .nil)))))))))))))))))], (.tt true), (.tup (.cons (.agg (.cons (.int .i64 (.lit 3)) (.cons (.int .i64 (.lit 5)) (.cons (.int .i64 (.lit (-7))) (.cons (.int .i64 (.lit 9)) (.cons (.int .u32 (.lit 2147483648)) (.cons (.int .i64 (.lit 31)) (.cons (.int .u32 (.lit 2147483648)) (.cons (.int .i64 (.lit 31)) (.cons (.int .i64 (.lit 11)) (.cons (.int .i64 (.lit 100)) .nil))))))))))) (.cons (.err (.lit 0)) .nil))), ⟨0, 0, 0, 0⟩, none⟩
theorem read6_w : walk Tryz.prog 81 ⟨[zuc_psum, zyc_gather, zuc_lay], syG, [], [], []⟩ [] .v za9c_read6 za9c_read6.n 3000 = some read6_tree := by kernel_rfl
theorem read6_h  (hc : holds (za9E [] [] [] []) (.tt true)) (hty : patsTyp (za9E [] [] [] []) [(.agg (.cons (.int .u64 (.iapp 26 (.cons (.tup (.cons (.int .i64 (.lit 3)) (.cons (.int .i64 (.lit 5)) (.cons (.int .i64 (.lit (-7))) (.cons (.int .i64 (.lit 9)) (.cons (.int .u32 (.lit 2147483648)) (.cons (.int .i64 (.lit 31)) (.cons (.int .u32 (.lit 2147483648)) (.cons (.int .i64 (.lit 31)) (.cons (.int .i64 (.lit 11)) (.cons (.int .i64 (.lit 100)) .nil))))))))))) (.cons (.int .u64 (.lit 6)) (.cons (.int .i64 (.lit 0)) .nil))))) (.cons (.int .u64 (.iapp 26 (.cons (.tup (.cons (.int .i64 (.lit 3)) (.cons (.int .i64 (.lit 5)) (.cons (.int .i64 (.lit (-7))) (.cons (.int .i64 (.lit 9)) (.cons (.int .u32 (.lit 2147483648)) (.cons (.int .i64 (.lit 31)) (.cons (.int .u32 (.lit 2147483648)) (.cons (.int .i64 (.lit 31)) (.cons (.int .i64 (.lit 11)) (.cons (.int .i64 (.lit 100)) .nil))))))))))) (.cons (.int .u64 (.lit 6)) (.cons (.int .i64 (.lit 1)) .nil))))) (.cons (.int .u64 (.iapp 26 (.cons (.tup (.cons (.int .i64 (.lit 3)) (.cons (.int .i64 (.lit 5)) (.cons (.int .i64 (.lit (-7))) (.cons (.int .i64 (.lit 9)) (.cons (.int .u32 (.lit 2147483648)) (.cons (.int .i64 (.lit 31)) (.cons (.int .u32 (.lit 2147483648)) (.cons (.int .i64 (.lit 31)) (.cons (.int .i64 (.lit 11)) (.cons (.int .i64 (.lit 100)) .nil))))))))))) (.cons (.int .u64 (.lit 6)) (.cons (.int .i64 (.lit 2)) .nil))))) (.cons (.int .u64 (.iapp 26 (.cons (.tup (.cons (.int .i64 (.lit 3)) (.cons (.int .i64 (.lit 5)) (.cons (.int .i64 (.lit (-7))) (.cons (.int .i64 (.lit 9)) (.cons (.int .u32 (.lit 2147483648)) (.cons (.int .i64 (.lit 31)) (.cons (.int .u32 (.lit 2147483648)) (.cons (.int .i64 (.lit 31)) (.cons (.int .i64 (.lit 11)) (.cons (.int .i64 (.lit 100)) .nil))))))))))) (.cons (.int .u64 (.lit 6)) (.cons (.int .i64 (.lit 3)) .nil))))) (.cons (.int .u64 (.iapp 26 (.cons (.tup (.cons (.int .i64 (.lit 3)) (.cons (.int .i64 (.lit 5)) (.cons (.int .i64 (.lit (-7))) (.cons (.int .i64 (.lit 9)) (.cons (.int .u32 (.lit 2147483648)) (.cons (.int .i64 (.lit 31)) (.cons (.int .u32 (.lit 2147483648)) (.cons (.int .i64 (.lit 31)) (.cons (.int .i64 (.lit 11)) (.cons (.int .i64 (.lit 100)) .nil))))))))))) (.cons (.int .u64 (.lit 6)) (.cons (.int .i64 (.lit 4)) .nil))))) (.cons (.int .u64 (.iapp 26 (.cons (.tup (.cons (.int .i64 (.lit 3)) (.cons (.int .i64 (.lit 5)) (.cons (.int .i64 (.lit (-7))) (.cons (.int .i64 (.lit 9)) (.cons (.int .u32 (.lit 2147483648)) (.cons (.int .i64 (.lit 31)) (.cons (.int .u32 (.lit 2147483648)) (.cons (.int .i64 (.lit 31)) (.cons (.int .i64 (.lit 11)) (.cons (.int .i64 (.lit 100)) .nil))))))))))) (.cons (.int .u64 (.lit 6)) (.cons (.int .i64 (.lit 5)) .nil))))) (.cons (.int .u64 (.iapp 26 (.cons (.tup (.cons (.int .i64 (.lit 3)) (.cons (.int .i64 (.lit 5)) (.cons (.int .i64 (.lit (-7))) (.cons (.int .i64 (.lit 9)) (.cons (.int .u32 (.lit 2147483648)) (.cons (.int .i64 (.lit 31)) (.cons (.int .u32 (.lit 2147483648)) (.cons (.int .i64 (.lit 31)) (.cons (.int .i64 (.lit 11)) (.cons (.int .i64 (.lit 100)) .nil))))))))))) (.cons (.int .u64 (.lit 6)) (.cons (.int .i64 (.lit 6)) .nil))))) (.cons (.int .u64 (.iapp 26 (.cons (.tup (.cons (.int .i64 (.lit 3)) (.cons (.int .i64 (.lit 5)) (.cons (.int .i64 (.lit (-7))) (.cons (.int .i64 (.lit 9)) (.cons (.int .u32 (.lit 2147483648)) (.cons (.int .i64 (.lit 31)) (.cons (.int .u32 (.lit 2147483648)) (.cons (.int .i64 (.lit 31)) (.cons (.int .i64 (.lit 11)) (.cons (.int .i64 (.lit 100)) .nil))))))))))) (.cons (.int .u64 (.lit 6)) (.cons (.int .i64 (.lit 7)) .nil))))) (.cons (.int .u64 (.iapp 26 (.cons (.tup (.cons (.int .i64 (.lit 3)) (.cons (.int .i64 (.lit 5)) (.cons (.int .i64 (.lit (-7))) (.cons (.int .i64 (.lit 9)) (.cons (.int .u32 (.lit 2147483648)) (.cons (.int .i64 (.lit 31)) (.cons (.int .u32 (.lit 2147483648)) (.cons (.int .i64 (.lit 31)) (.cons (.int .i64 (.lit 11)) (.cons (.int .i64 (.lit 100)) .nil))))))))))) (.cons (.int .u64 (.lit 6)) (.cons (.int .i64 (.lit 8)) .nil))))) (.cons (.int .u64 (.iapp 26 (.cons (.tup (.cons (.int .i64 (.lit 3)) (.cons (.int .i64 (.lit 5)) (.cons (.int .i64 (.lit (-7))) (.cons (.int .i64 (.lit 9)) (.cons (.int .u32 (.lit 2147483648)) (.cons (.int .i64 (.lit 31)) (.cons (.int .u32 (.lit 2147483648)) (.cons (.int .i64 (.lit 31)) (.cons (.int .i64 (.lit 11)) (.cons (.int .i64 (.lit 100)) .nil))))))))))) (.cons (.int .u64 (.lit 6)) (.cons (.int .i64 (.lit 9)) .nil))))) (.cons (.int .u64 (.iapp 26 (.cons (.tup (.cons (.int .i64 (.lit 3)) (.cons (.int .i64 (.lit 5)) (.cons (.int .i64 (.lit (-7))) (.cons (.int .i64 (.lit 9)) (.cons (.int .u32 (.lit 2147483648)) (.cons (.int .i64 (.lit 31)) (.cons (.int .u32 (.lit 2147483648)) (.cons (.int .i64 (.lit 31)) (.cons (.int .i64 (.lit 11)) (.cons (.int .i64 (.lit 100)) .nil))))))))))) (.cons (.int .u64 (.lit 6)) (.cons (.int .i64 (.lit 10)) .nil))))) (.cons (.int .u64 (.iapp 26 (.cons (.tup (.cons (.int .i64 (.lit 3)) (.cons (.int .i64 (.lit 5)) (.cons (.int .i64 (.lit (-7))) (.cons (.int .i64 (.lit 9)) (.cons (.int .u32 (.lit 2147483648)) (.cons (.int .i64 (.lit 31)) (.cons (.int .u32 (.lit 2147483648)) (.cons (.int .i64 (.lit 31)) (.cons (.int .i64 (.lit 11)) (.cons (.int .i64 (.lit 100)) .nil))))))))))) (.cons (.int .u64 (.lit 6)) (.cons (.int .i64 (.lit 11)) .nil))))) (.cons (.int .u64 (.iapp 26 (.cons (.tup (.cons (.int .i64 (.lit 3)) (.cons (.int .i64 (.lit 5)) (.cons (.int .i64 (.lit (-7))) (.cons (.int .i64 (.lit 9)) (.cons (.int .u32 (.lit 2147483648)) (.cons (.int .i64 (.lit 31)) (.cons (.int .u32 (.lit 2147483648)) (.cons (.int .i64 (.lit 31)) (.cons (.int .i64 (.lit 11)) (.cons (.int .i64 (.lit 100)) .nil))))))))))) (.cons (.int .u64 (.lit 6)) (.cons (.int .i64 (.lit 12)) .nil))))) (.cons (.int .u64 (.iapp 26 (.cons (.tup (.cons (.int .i64 (.lit 3)) (.cons (.int .i64 (.lit 5)) (.cons (.int .i64 (.lit (-7))) (.cons (.int .i64 (.lit 9)) (.cons (.int .u32 (.lit 2147483648)) (.cons (.int .i64 (.lit 31)) (.cons (.int .u32 (.lit 2147483648)) (.cons (.int .i64 (.lit 31)) (.cons (.int .i64 (.lit 11)) (.cons (.int .i64 (.lit 100)) .nil))))))))))) (.cons (.int .u64 (.lit 6)) (.cons (.int .i64 (.lit 13)) .nil))))) (.cons (.int .u64 (.iapp 26 (.cons (.tup (.cons (.int .i64 (.lit 3)) (.cons (.int .i64 (.lit 5)) (.cons (.int .i64 (.lit (-7))) (.cons (.int .i64 (.lit 9)) (.cons (.int .u32 (.lit 2147483648)) (.cons (.int .i64 (.lit 31)) (.cons (.int .u32 (.lit 2147483648)) (.cons (.int .i64 (.lit 31)) (.cons (.int .i64 (.lit 11)) (.cons (.int .i64 (.lit 100)) .nil))))))))))) (.cons (.int .u64 (.lit 6)) (.cons (.int .i64 (.lit 14)) .nil))))) (.cons (.int .u64 (.iapp 26 (.cons (.tup (.cons (.int .i64 (.lit 3)) (.cons (.int .i64 (.lit 5)) (.cons (.int .i64 (.lit (-7))) (.cons (.int .i64 (.lit 9)) (.cons (.int .u32 (.lit 2147483648)) (.cons (.int .i64 (.lit 31)) (.cons (.int .u32 (.lit 2147483648)) (.cons (.int .i64 (.lit 31)) (.cons (.int .i64 (.lit 11)) (.cons (.int .i64 (.lit 100)) .nil))))))))))) (.cons (.int .u64 (.lit 6)) (.cons (.int .i64 (.lit 15)) .nil))))) .nil)))))))))))))))))]) : read6_tree.holds (fun v_ => v_ = denV (za9E [] [] [] []) b0 (.tup (.cons (.agg (.cons (.int .i64 (.lit 3)) (.cons (.int .i64 (.lit 5)) (.cons (.int .i64 (.lit (-7))) (.cons (.int .i64 (.lit 9)) (.cons (.int .u32 (.lit 2147483648)) (.cons (.int .i64 (.lit 31)) (.cons (.int .u32 (.lit 2147483648)) (.cons (.int .i64 (.lit 31)) (.cons (.int .i64 (.lit 11)) (.cons (.int .i64 (.lit 100)) .nil))))))))))) (.cons (.err (.lit 0)) .nil)))) (za9E [] [] [] []) := by
  simp only [Tree.holds, Sy.holds, AllN, Env.more, za9E, List.cons_append, List.nil_append, List.append_nil, denV, denI, denB, denL, I2.den, VOp.den, List.getD_cons_zero, List.getD_cons_succ, Cst.den, syso, syse, syio, sybo, List.map_nil, List.map_cons, B2.ofInts, B2.denI, B2.denB, if_true, Bool.false_eq_true, if_false, Nat.div_one, Nat.mul_one, Nat.add_zero, holds] at hc
  simp only [patsTyp, patTyp, patTypL, za9E, denV, denL, List.getD_cons_zero, List.getD_cons_succ, and_true, true_and] at hty
  unfold read6_tree
  simp only [read6_x0, read6_x1, read6_x2, read6_x3]
  simp only [Tree.holds, Sy.holds, AllN, Env.more, za9E, List.cons_append, List.nil_append, List.append_nil, denV, denI, denB, denL, I2.den, VOp.den, List.getD_cons_zero, List.getD_cons_succ, Cst.den, syso, syse, syio, sybo, za9i_ws, za9i_lw, za9b_pm, List.map_nil, List.map_cons, B2.ofInts, B2.denI, B2.denB, if_true, Bool.false_eq_true, if_false, Nat.div_one, Nat.mul_one, Nat.add_zero]
  simp only [wd0, wd1, wd2, wd3, wd4, wd5, wd6, wd7, wd8, wd9, wd10, wd11, wd12, wd13, wd14, wd15, q_u]
  simp only [rows_tup, ql0, ql1, ql2, ql3, ql4, ql5, ql6, ql7, ql8, ql9]
  simp only [wd0, wd1, wd2, wd3, wd4, wd5, wd6, wd7, wd8, wd9, wd10, wd11, wd12, wd13, wd14, wd15, q_u, rows_tup, and_self, true_and, and_true, eq_self_iff_true]
  refine ⟨fun h0 => ?_, fun h0 => ?_⟩
  ·
   first
   | exact absurd h0 (by decide)
   | exact absurd True.intro (by assumption)
   | (exfalso; omega)
   | rfl
  ·
   refine ⟨?_, fun h1 => ?_⟩
   ·
    first
    | omega
    | decide
   ·
    refine ⟨fun h2 => ?_, fun h2 => ?_⟩
    ·
     first
     | exact absurd h0 (by decide)
     | exact absurd True.intro (by assumption)
     | (exfalso; omega)
     | rfl
    ·
     refine ⟨?_, fun h3 => ?_⟩
     ·
      first
      | omega
      | decide
     ·
      refine ⟨fun h4 => ?_, fun h4 => ?_⟩
      ·
       first
       | exact absurd h0 (by decide)
       | exact absurd True.intro (by assumption)
       | (exfalso; omega)
       | rfl
      ·
       first
       | exact absurd h0 (by decide)
       | exact absurd True.intro (by assumption)
       | (exfalso; omega)
       | rfl
theorem za9g_read6 : za9c_read6.Good Tryz.prog syG (za9E [] [] [] []) := good_of_walk (Γ := ⟨[zuc_psum, zyc_gather, zuc_lay], syG, [], [], []⟩) (ρ := za9E [] [] [] []) sym read6_w rfl (fun _ _ _ _ => (ok_cons (Con.Good.env (Con.Good.up (Con.Good.up zug_psum zyup rfl) za9up rfl) _ _ _ _) (ok_cons (Con.Good.env (Con.Good.up zyg_gather za9up rfl) _ _ _ _) (ok_cons (Con.Good.env (Con.Good.up (Con.Good.up zug_lay zyup rfl) za9up rfl) _ _ _ _) ok_nil)))) (fun hc hty => read6_h  hc hty)
def sure19_tree : Tree :=
 (.need (.bapp 5 (.cons (.tup (.cons (.int .i64 (.lit 3)) (.cons (.int .i64 (.lit 5)) (.cons (.int .i64 (.lit (-7))) (.cons (.int .i64 (.lit 9)) (.cons (.int .u32 (.lit 2147483648)) (.cons (.int .i64 (.lit 31)) (.cons (.int .u32 (.lit 2147483648)) (.cons (.int .i64 (.lit 31)) (.cons (.int .i64 (.lit 11)) (.cons (.int .i64 (.lit 100)) .nil))))))))))) .nil))
 (.br (eq_ (.iapp 26 (.cons (.tup (.cons (.int .i64 (.lit 3)) (.cons (.int .i64 (.lit 5)) (.cons (.int .i64 (.lit (-7))) (.cons (.int .i64 (.lit 9)) (.cons (.int .u32 (.lit 2147483648)) (.cons (.int .i64 (.lit 31)) (.cons (.int .u32 (.lit 2147483648)) (.cons (.int .i64 (.lit 31)) (.cons (.int .i64 (.lit 11)) (.cons (.int .i64 (.lit 100)) .nil))))))))))) (.cons (.int .u64 (.lit 6)) (.cons (.int .i64 (.lit 2)) .nil)))) (.lit 5))
 (.ret (.bool (.tt true)))
 (.ret (.bool (.tt false)))))
abbrev za9c_sure19 : Con := ⟨4, [], (.tt true), (.bool (.tt true)), ⟨0, 0, 0, 0⟩, none⟩
theorem sure19_w : walk Tryz.prog 81 ⟨[za9c_some, zuc_lay, za9c_read6, za9c_read7, za9c_sync, za9c_of, zyc_num], syG, [], [], []⟩ [] .v za9c_sure19 za9c_sure19.n 3000 = some sure19_tree := by kernel_rfl
theorem sure19_h  (hc : holds (za9E [] [] [] []) (.tt true)) (hty : patsTyp (za9E [] [] [] []) []) : sure19_tree.holds (fun v_ => v_ = denV (za9E [] [] [] []) b0 (.bool (.tt true))) (za9E [] [] [] []) := by
  simp only [Tree.holds, Sy.holds, AllN, Env.more, za9E, List.cons_append, List.nil_append, List.append_nil, denV, denI, denB, denL, I2.den, VOp.den, List.getD_cons_zero, List.getD_cons_succ, Cst.den, syso, syse, syio, sybo, List.map_nil, List.map_cons, B2.ofInts, B2.denI, B2.denB, if_true, Bool.false_eq_true, if_false, Nat.div_one, Nat.mul_one, Nat.add_zero, holds] at hc
  simp only [patsTyp, patTyp, patTypL, za9E, denV, denL, List.getD_cons_zero, List.getD_cons_succ, and_true, true_and] at hty
  unfold sure19_tree
  simp only [Tree.holds, Sy.holds, AllN, Env.more, za9E, List.cons_append, List.nil_append, List.append_nil, denV, denI, denB, denL, I2.den, VOp.den, List.getD_cons_zero, List.getD_cons_succ, Cst.den, syso, syse, syio, sybo, za9i_lw, za9b_pm, List.map_nil, List.map_cons, B2.ofInts, B2.denI, B2.denB, if_true, Bool.false_eq_true, if_false, Nat.div_one, Nat.mul_one, Nat.add_zero]
  have s0 := q_l2
  refine ⟨?_, fun h0 => ?_⟩
  ·
   first
   | exact True.intro
   | omega
   | exact q_pm
   | exact ⟨by decide, q_pm, by decide⟩
   | decide
  ·
   refine ⟨fun h1 => ?_, fun h1 => ?_⟩
   ·
    first
    | rfl
    | (exfalso; omega)
    | exact absurd q_l2 (by assumption)
    | exact True.intro
   ·
    first
    | rfl
    | (exfalso; omega)
    | exact absurd q_l2 (by assumption)
    | exact True.intro
theorem za9g_sure19 : za9c_sure19.Good Tryz.prog syG (za9E [] [] [] []) := good_of_walk (Γ := ⟨[za9c_some, zuc_lay, za9c_read6, za9c_read7, za9c_sync, za9c_of, zyc_num], syG, [], [], []⟩) (ρ := za9E [] [] [] []) sym sure19_w rfl (fun _ _ _ _ => (ok_cons (Con.Good.env za9g_some _ _ _ _) (ok_cons (Con.Good.env (Con.Good.up (Con.Good.up zug_lay zyup rfl) za9up rfl) _ _ _ _) (ok_cons (Con.Good.env za9g_read6 _ _ _ _) (ok_cons (Con.Good.env za9g_read7 _ _ _ _) (ok_cons (Con.Good.env za9g_sync _ _ _ _) (ok_cons (Con.Good.env za9g_of _ _ _ _) (ok_cons (Con.Good.env (Con.Good.up zyg_num za9up rfl) _ _ _ _) ok_nil)))))))) (fun hc hty => sure19_h  hc hty)
def wForms_tree : Tree :=
 (.br (lt_ (.lit 400) (.ofI (.vop (.len 1) (.cons o0_ .nil))))
 (.ret (.bool (.tt true)))
 (.need (an_ (an_ (le_ lm_ v0_) (le_ v0_ lM_)) (an_ (an_ (le_ lm_ v1_) (le_ v1_ lM_)) (an_ (an_ (le_ lm_ v2_) (le_ v2_ lM_)) (an_ (an_ (le_ lm_ v3_) (le_ v3_ lM_)) (an_ (an_ (le_ (.lit 0) v4_) (le_ v4_ (.lit 4294967295))) (an_ (an_ (le_ lm_ v5_) (le_ v5_ lM_)) (an_ (an_ (le_ (.lit 0) v6_) (le_ v6_ (.lit 4294967295))) (an_ (an_ (le_ lm_ v7_) (le_ v7_ lM_)) (an_ (an_ (le_ lm_ v8_) (le_ v8_ lM_)) (an_ (le_ lm_ v9_) (le_ v9_ lM_)))))))))))
 (.need (an_ (an_ (le_ lm_ v0_) (le_ v0_ lM_)) (an_ (an_ (le_ lm_ v1_) (le_ v1_ lM_)) (an_ (an_ (le_ lm_ v2_) (le_ v2_ lM_)) (an_ (an_ (le_ lm_ v3_) (le_ v3_ lM_)) (an_ (an_ (le_ (.lit 0) v4_) (le_ v4_ (.lit 4294967295))) (an_ (an_ (le_ lm_ v5_) (le_ v5_ lM_)) (an_ (an_ (le_ (.lit 0) v6_) (le_ v6_ (.lit 4294967295))) (an_ (an_ (le_ lm_ v7_) (le_ v7_ lM_)) (an_ (an_ (le_ lm_ v8_) (le_ v8_ lM_)) (an_ (le_ lm_ v9_) (le_ v9_ lM_)))))))))))
 (.need (an_ (.bapp 0 (.cons o0_ .nil)) (le_ (.ofI (.vop (.len 1) (.cons o0_ .nil))) (.lit 4096)))
 (.need (an_ (.bapp 0 (.cons o0_ .nil)) (le_ (.ofI (.vop (.len 1) (.cons o0_ .nil))) (.lit 4096)))
 (.ret (.bool (.tt true))))))))
abbrev za9c_wForms : Con := ⟨3, [(.agg (.cons z0_ (.cons z1_ (.cons z2_ (.cons z3_ (.cons (.int .u32 v4_) (.cons z5_ (.cons (.int .u32 v6_) (.cons z7_ (.cons z8_ (.cons z9_ .nil))))))))))), (.hs .no (.cons (.int .u8) .nil) o0_)], (an_ (an_ (an_ (le_ lm_ v0_) (le_ v0_ lM_)) (an_ (an_ (le_ lm_ v1_) (le_ v1_ lM_)) (an_ (an_ (le_ lm_ v2_) (le_ v2_ lM_)) (an_ (an_ (le_ lm_ v3_) (le_ v3_ lM_)) (an_ (an_ (le_ (.lit 0) v4_) (le_ v4_ (.lit 4294967295))) (an_ (an_ (le_ lm_ v5_) (le_ v5_ lM_)) (an_ (an_ (le_ (.lit 0) v6_) (le_ v6_ (.lit 4294967295))) (an_ (an_ (le_ lm_ v7_) (le_ v7_ lM_)) (an_ (an_ (le_ lm_ v8_) (le_ v8_ lM_)) (an_ (le_ lm_ v9_) (le_ v9_ lM_))))))))))) (.bapp 0 (.cons o0_ .nil))), (.bool (.tt true)), ⟨10, 0, 1, 0⟩, none⟩
theorem wForms_w : walk Tryz.prog 81 ⟨[zyc_give19, zyc_penc, zyc_rpenc, zyc_pdec, zyc_rpdec, zyc_num, za9c_sure19], syG, [], [], []⟩ [] .v za9c_wForms za9c_wForms.n 3000 = some wForms_tree := by kernel_rfl
theorem wForms_h (pe : Int) (pb : Int) (pt : Int) (pr : Int) (gm : Int) (gs : Int) (qm : Int) (qs : Int) (pp : Int) (pc : Int) (c : Value) (hc : holds (za9E [pe, pb, pt, pr, gm, gs, qm, qs, pp, pc] [] [c] []) (an_ (an_ (an_ (le_ lm_ v0_) (le_ v0_ lM_)) (an_ (an_ (le_ lm_ v1_) (le_ v1_ lM_)) (an_ (an_ (le_ lm_ v2_) (le_ v2_ lM_)) (an_ (an_ (le_ lm_ v3_) (le_ v3_ lM_)) (an_ (an_ (le_ (.lit 0) v4_) (le_ v4_ (.lit 4294967295))) (an_ (an_ (le_ lm_ v5_) (le_ v5_ lM_)) (an_ (an_ (le_ (.lit 0) v6_) (le_ v6_ (.lit 4294967295))) (an_ (an_ (le_ lm_ v7_) (le_ v7_ lM_)) (an_ (an_ (le_ lm_ v8_) (le_ v8_ lM_)) (an_ (le_ lm_ v9_) (le_ v9_ lM_))))))))))) (.bapp 0 (.cons o0_ .nil)))) (hty : patsTyp (za9E [pe, pb, pt, pr, gm, gs, qm, qs, pp, pc] [] [c] []) [(.agg (.cons z0_ (.cons z1_ (.cons z2_ (.cons z3_ (.cons (.int .u32 v4_) (.cons z5_ (.cons (.int .u32 v6_) (.cons z7_ (.cons z8_ (.cons z9_ .nil))))))))))), (.hs .no (.cons (.int .u8) .nil) o0_)]) : wForms_tree.holds (fun v_ => v_ = denV (za9E [pe, pb, pt, pr, gm, gs, qm, qs, pp, pc] [] [c] []) b0 (.bool (.tt true))) (za9E [pe, pb, pt, pr, gm, gs, qm, qs, pp, pc] [] [c] []) := by
  simp only [Tree.holds, Sy.holds, AllN, Env.more, za9E, List.cons_append, List.nil_append, List.append_nil, denV, denI, denB, denL, I2.den, VOp.den, List.getD_cons_zero, List.getD_cons_succ, Cst.den, syso, syse, syio, sybo, za9b_okr, List.map_nil, List.map_cons, B2.ofInts, B2.denI, B2.denB, if_true, Bool.false_eq_true, if_false, Nat.div_one, Nat.mul_one, Nat.add_zero, holds] at hc
  simp only [patsTyp, patTyp, patTypL, za9E, denV, denL, List.getD_cons_zero, List.getD_cons_succ, and_true, true_and] at hty
  have hL_c : typ (.sl (.cons (.int .u8) .nil)) c := by first | exact hty | exact hty.1 | exact hty.2 | exact hty.1.1 | exact hty.1.2 | exact hty.2.1 | exact hty.2.2 | exact hty.2.2.1 | exact hty.2.2.2
  have hN_c := typ_len (n := 1) hL_c rfl (by omega)
  simp only [Nat.div_one, Nat.mul_one] at hN_c
  unfold wForms_tree
  simp only [Tree.holds, Sy.holds, AllN, Env.more, za9E, List.cons_append, List.nil_append, List.append_nil, denV, denI, denB, denL, I2.den, VOp.den, List.getD_cons_zero, List.getD_cons_succ, Cst.den, syso, syse, syio, sybo, za9b_okr, List.map_nil, List.map_cons, B2.ofInts, B2.denI, B2.denB, if_true, Bool.false_eq_true, if_false, Nat.div_one, Nat.mul_one, Nat.add_zero]
  refine ⟨fun h0 => ?_, fun h0 => ?_⟩
  ·
   first
   | rfl
   | (exfalso; omega)
   | exact True.intro
  ·
   refine ⟨?_, fun h1 => ?_⟩
   ·
    first
    | exact True.intro
    | omega
    | exact hc.1
    | exact ⟨hc.2, by omega⟩
   ·
    refine ⟨?_, fun h2 => ?_⟩
    ·
     first
     | exact True.intro
     | omega
     | exact hc.1
     | exact ⟨hc.2, by omega⟩
    ·
     refine ⟨?_, fun h3 => ?_⟩
     ·
      first
      | exact True.intro
      | omega
      | exact hc.1
      | exact ⟨hc.2, by omega⟩
     ·
      refine ⟨?_, fun h4 => ?_⟩
      ·
       first
       | exact True.intro
       | omega
       | exact hc.1
       | exact ⟨hc.2, by omega⟩
      ·
       first
       | rfl
       | (exfalso; omega)
       | exact True.intro
theorem za9g_wForms : za9c_wForms.Good Tryz.prog syG (za9E [] [] [] []) := good_of_walk (Γ := ⟨[zyc_give19, zyc_penc, zyc_rpenc, zyc_pdec, zyc_rpdec, zyc_num, za9c_sure19], syG, [], [], []⟩) (ρ := za9E [] [] [] []) sym wForms_w rfl (fun _ _ _ _ => (ok_cons (Con.Good.env (Con.Good.up zyg_give19 za9up rfl) _ _ _ _) (ok_cons (Con.Good.env (Con.Good.up zyg_penc za9up rfl) _ _ _ _) (ok_cons (Con.Good.env (Con.Good.up zyg_rpenc za9up rfl) _ _ _ _) (ok_cons (Con.Good.env (Con.Good.up zyg_pdec za9up rfl) _ _ _ _) (ok_cons (Con.Good.env (Con.Good.up zyg_rpdec za9up rfl) _ _ _ _) (ok_cons (Con.Good.env (Con.Good.up zyg_num za9up rfl) _ _ _ _) (ok_cons (Con.Good.env za9g_sure19 _ _ _ _) ok_nil)))))))) (fun pe pb pt pr gm gs qm qs pp pc c hc hty => wForms_h pe pb pt pr gm gs qm qs pp pc c hc hty)
end Go.Proofs.YtbgmbbkmadkhgaaGreatDoor
