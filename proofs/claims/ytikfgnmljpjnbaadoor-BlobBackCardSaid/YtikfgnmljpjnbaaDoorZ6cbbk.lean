/-
 BlobForms by the second engine.
-/
import Derived.Test.YtikfgnmljpjnbaaDoorSycbbk
import Derived.Test.YtikfgnmljpjnbaaDoorZ6bbbk
namespace Go.Proofs.YtikfgnmljpjnbaaDoor
open Go.RowKit Go.Extern.Stop Go.Stop Go.Extern Go.Proofs.YtikfgnmljpjnbaaDoor.Sy
set_option linter.unusedVariables false
set_option linter.unusedSimpArgs false
theorem num06_any (n : Int) (w : World) (hg : w.cell? ⟨0, 0, none⟩ = some asHandle) : Calls Tryd.prog 11 #[errVal 101 n] w fun e w' => e = .returned (.int .i64 n) ∧ Below w.heap.size w w' := by
 unfold errVal
 split
 · rename_i h; subst h; exact num06_nil _
 · exact num06_err _ _ hg
theorem sure6_facts : slE [] 1 = 0 ∧ (Sy.rows (slV [] 1)).length = 9 ∧ kdE (Sy.rows (slV [] 1)) = 0 ∧ kdK (Sy.rows (slV [] 1)) = 1 ∧ kdN (Sy.rows (slV [] 1)) = 9 ∧ blE (Sy.rows (slV [] 1)) 6 = 3 ∧ isB (Sy.rows (slV [] 1)) := by
 have e : Sy.rows (slV [] 1) = [Value.int .u8 116, Value.int .u8 109, Value.int .u8 1, Value.int .u8 0, Value.int .u8 0] ++ (sumBytes (crcMore 0 (byL [Value.int .u8 116, Value.int .u8 109, Value.int .u8 1, Value.int .u8 0, Value.int .u8 0]))).map bV := rfl
 have hP : kdP (Sy.rows (slV [] 1)) := by
   rw [e]
   generalize crcMore 0 _ = s
   exact ⟨by simp [sumBytes], rfl, rfl, by show (1 : Int) ≤ 1; omega, by show (1 : Int) ≤ 6; omega, by show (0 : Int) + 256 * 0 ≤ 1024; omega⟩
 have hE : kdE (Sy.rows (slV [] 1)) = 0 := if_pos hP
 have hK : kdK (Sy.rows (slV [] 1)) = 1 := by
   unfold kdK
   rw [if_pos hP, e]
   rfl
 have hN : kdN (Sy.rows (slV [] 1)) = 9 := by
   unfold kdN
   rw [if_pos hP, e]
   rfl
 refine ⟨rfl, by rw [e]; simp [sumBytes], hE, hK, hN, ?_, by rw [e]; exact isB.app (.cons (by omega) (by omega) (.cons (by omega) (by omega) (.cons (by omega) (by omega) (.cons (by omega) (by omega) (.cons (by omega) (by omega) .nil))))) (isB_bV _)⟩
 unfold blE
 rw [hK, if_neg (by omega), if_pos (by omega)]
noncomputable def zc6I : Nat → List Value → Int
 | i, l => zb6I i l
noncomputable def zc6B : Nat → List Value → Bool
 | i, l => zb6B i l
noncomputable def zc6V : Nat → List Value → Value
 | i, l => zb6V i l
noncomputable abbrev zc6E (iv : List Int) (bv : List Bool) (vv : List Value) (sv : List ByteArray) : Env := { iv := iv, bv := bv, vv := vv, sv := sv, fi := zc6I, fb := zc6B, fv := zc6V, et := 101 }
theorem zc6up : Agree 10 3 9 (zb6E [] [] [] []) (zc6E [] [] [] []) := ⟨rfl, (by
   intro f hf
   funext l
   show zc6I f l = zb6I f l
   unfold zc6I
   split <;> first | rfl | omega), (by
   intro f hf
   funext l
   show zc6B f l = zb6B f l
   unfold zc6B
   split <;> first | rfl | omega), (by
   intro f hf
   funext l
   show zc6V f l = zb6V f l
   unfold zc6V
   split <;> first | rfl | omega)⟩
theorem zc6i_rn (l : Value) (k1 : IntKind) (k : Int) : zc6I 0 [l, .int k1 k] = ((getV (byL (rows l)) k.toNat : Nat) : Int) := rfl
theorem zc6i_ri (l : Value) : zc6I 1 [l] = rdI (byL (rows l)) := rfl
theorem zc6i_dn (l : Value) (s : Bool) : zc6I 2 [l, .bool s] = dnE (byL (rows l)) s := rfl
theorem zc6i_sum (l : Value) : zc6I 3 [l] = ((crcMore 0 (byL (rows l)) : Nat) : Int) := rfl
theorem zc6i_ope (l : Value) : zc6I 4 [l] = opnE (rows l) := rfl
theorem zc6i_sle (l : Value) (k1 : IntKind) (k : Int) : zc6I 5 [l, .int k1 k] = slE (rows l) k := rfl
theorem zc6i_kde (l : Value) : zc6I 6 [l] = kdE (rows l) := rfl
theorem zc6i_kdk (l : Value) : zc6I 7 [l] = kdK (rows l) := rfl
theorem zc6i_kdn (l : Value) : zc6I 8 [l] = kdN (rows l) := rfl
theorem zc6i_ble (l : Value) (k1 : IntKind) (k : Int) : zc6I 9 [l, .int k1 k] = blE (rows l) k := rfl
theorem zc6b_okr (l : Value) : zc6B 0 [l] = okR (rows l) := rfl
theorem zc6b_rs (l : Value) (s : Bool) (k1 : IntKind) (k : Int) : zc6B 1 [l, .bool s, .int k1 k] = getS (byL (rows l)) s k.toNat := rfl
theorem zc6b_otk (l : Value) (k1 : IntKind) (n : Int) : zc6B 2 [l, .int k1 n] = tlk (rows l) n.toNat := rfl
theorem zc6v_rl (l : Value) (k1 : IntKind) (k : Int) : zc6V 0 [l, .int k1 k] = Value.tuple ((getL (byL (rows l)) k.toNat).map bV).toArray := rfl
theorem zc6v_seal (l : Value) : zc6V 1 [l] = sealV (rows l) := rfl
theorem zc6v_opv (l : Value) : zc6V 2 [l] = opnV (rows l) := rfl
theorem zc6v_p1 (l : Value) (k1 : IntKind) (v : Int) : zc6V 3 [l, .int k1 v] = putV (rows l) v 1 := rfl
theorem zc6v_p2 (l : Value) (k1 : IntKind) (v : Int) : zc6V 4 [l, .int k1 v] = putV (rows l) v 2 := rfl
theorem zc6v_p4 (l : Value) (k1 : IntKind) (v : Int) : zc6V 5 [l, .int k1 v] = putV (rows l) v 4 := rfl
theorem zc6v_p8 (l : Value) (k1 : IntKind) (v : Int) : zc6V 6 [l, .int k1 v] = putV (rows l) v 8 := rfl
theorem zc6v_slv (l : Value) (k1 : IntKind) (k : Int) : zc6V 7 [l, .int k1 k] = slV (rows l) k := rfl
theorem zc6v_blv (l : Value) (k1 : IntKind) (k : Int) : zc6V 8 [l, .int k1 k] = blV (rows l) k := rfl
abbrev zc6c_num : Con := ⟨11, [(.err v0_)], (.tt true), z0_, ⟨1, 0, 0, 0⟩, none⟩
theorem zc6g_num : zc6c_num.Good Tryd.prog syG (zc6E [] [] [] []) := good_flat rfl rfl rfl (by
 intro n hc β ok w hG
 have hc' := hc
 simp only [Tree.holds, Sy.holds, AllN, Env.more, zc6E, List.cons_append, List.nil_append, List.append_nil, denV, denI, denB, denL, I2.den, VOp.den, List.getD_cons_zero, List.getD_cons_succ, Cst.den, syso, syse, syio, sybo, zc6i_rn, zc6i_ri, zc6i_dn, zc6i_sum, zc6i_ope, zc6i_sle, zc6i_kde, zc6i_kdk, zc6i_kdn, zc6i_ble, zc6b_okr, zc6b_rs, zc6b_otk, zc6v_rl, zc6v_seal, zc6v_opv, zc6v_p1, zc6v_p2, zc6v_p4, zc6v_p8, zc6v_slv, zc6v_blv, List.map_nil, List.map_cons, B2.ofInts, B2.denI, B2.denB, if_true, Bool.false_eq_true, if_false, Nat.div_one, Nat.mul_one, Nat.add_zero, holds] at hc
 exact num06_any n w (hG _ (List.mem_singleton.2 rfl)).2.2)
def sure6_tree : Tree :=
 (.need (an_ (.bapp 0 (.cons (.tup .nil) .nil)) (le_ (.ofI (.vop (.len 1) (.cons (.tup .nil) .nil))) (.lit 140737488355000)))
 (.need (an_ (.bapp 0 (.cons (.vapp 7 (.cons (.tup .nil) (.cons (.int .u8 (.lit 1)) .nil))) .nil)) (le_ (.ofI (.vop (.len 1) (.cons (.vapp 7 (.cons (.tup .nil) (.cons (.int .u8 (.lit 1)) .nil))) .nil))) (.lit 140737488355000)))
 (.need (an_ (.bapp 0 (.cons (.vapp 7 (.cons (.tup .nil) (.cons (.int .u8 (.lit 1)) .nil))) .nil)) (le_ (.ofI (.vop (.len 1) (.cons (.vapp 7 (.cons (.tup .nil) (.cons (.int .u8 (.lit 1)) .nil))) .nil))) (.lit 140737488355000)))
 (.br (eq_ (.iapp 5 (.cons (.tup .nil) (.cons (.int .u8 (.lit 1)) .nil))) (.lit 0))
 (.br (eq_ (.iapp 6 (.cons (.vapp 7 (.cons (.tup .nil) (.cons (.int .u8 (.lit 1)) .nil))) .nil)) (.lit 0))
 (.br (eq_ (.ofI (.vop (.len 1) (.cons (.vapp 7 (.cons (.tup .nil) (.cons (.int .u8 (.lit 1)) .nil))) .nil))) (.lit 9))
 (.br (eq_ (.iapp 7 (.cons (.vapp 7 (.cons (.tup .nil) (.cons (.int .u8 (.lit 1)) .nil))) .nil)) (.lit 1))
 (.br (eq_ (.iapp 8 (.cons (.vapp 7 (.cons (.tup .nil) (.cons (.int .u8 (.lit 1)) .nil))) .nil)) (.lit 9))
 (.br (eq_ (.iapp 9 (.cons (.vapp 7 (.cons (.tup .nil) (.cons (.int .u8 (.lit 1)) .nil))) (.cons (.int .u8 (.lit 6)) .nil))) (.lit 3))
 (.ret (.bool (.tt true)))
 (.ret (.bool (.tt false))))
 (.ret (.bool (.tt false))))
 (.ret (.bool (.tt false))))
 (.ret (.bool (.tt false))))
 (.ret (.bool (.tt false))))
 (.ret (.bool (.tt false)))))))
abbrev zc6c_sure6 : Con := ⟨8, [], (.tt true), (.bool (.tt true)), ⟨0, 0, 0, 0⟩, none⟩
theorem sure6_w : walk Tryd.prog 101 ⟨[zb6c_seal, zb6c_kind, zb6c_open, zc6c_num], syG, [], [], []⟩ [] .v zc6c_sure6 zc6c_sure6.n 3000 = some sure6_tree := by kernel_rfl
theorem sure6_h : Hyp_ zc6c_sure6 sure6_tree (zc6E [] [] [] []) := by
 intro hc hty
 simp only [zc6c_sure6, Sy.holds, zc6E, denV, denI, denB, denL, I2.den, VOp.den, List.getD_cons_zero, List.getD_cons_succ, Cst.den, syso, syse, syio, sybo, zc6i_rn, zc6i_ri, zc6i_dn, zc6i_sum, zc6i_ope, zc6i_sle, zc6i_kde, zc6i_kdk, zc6i_kdn, zc6i_ble, zc6b_okr, zc6b_rs, zc6b_otk, zc6v_rl, zc6v_seal, zc6v_opv, zc6v_p1, zc6v_p2, zc6v_p4, zc6v_p8, zc6v_slv, zc6v_blv, B2.ofInts, B2.denI, B2.denB, if_true, Bool.false_eq_true, if_false, Nat.div_one, Nat.mul_one, Nat.add_zero] at hc
 simp only [zc6c_sure6, patsTyp, patTyp, patTypL, zc6E, denV, denL, List.getD_cons_zero, List.getD_cons_succ, and_true, true_and] at hty
 unfold sure6_tree
 simp only [zc6c_sure6, Tree.holds, Sy.holds, zc6E, denV, denI, denB, denL, I2.den, VOp.den, List.getD_cons_zero, List.getD_cons_succ, Cst.den, syso, syse, syio, sybo, zc6i_rn, zc6i_ri, zc6i_dn, zc6i_sum, zc6i_ope, zc6i_sle, zc6i_kde, zc6i_kdk, zc6i_kdn, zc6i_ble, zc6b_okr, zc6b_rs, zc6b_otk, zc6v_rl, zc6v_seal, zc6v_opv, zc6v_p1, zc6v_p2, zc6v_p4, zc6v_p8, zc6v_slv, zc6v_blv, B2.ofInts, B2.denI, B2.denB, if_true, Bool.false_eq_true, if_false, Nat.div_one, Nat.mul_one, Nat.add_zero]
 refine ⟨?_, fun h0 => ?_⟩
 refine ?a0; rotate_left
 refine ⟨?_, fun h1 => ?_⟩
 refine ?a1; rotate_left
 refine ⟨?_, fun h2 => ?_⟩
 refine ?a2; rotate_left
 refine ⟨fun h3 => ?_, fun h3 => ?_⟩
 refine ⟨fun h4 => ?_, fun h4 => ?_⟩
 refine ⟨fun h5 => ?_, fun h5 => ?_⟩
 refine ⟨fun h6 => ?_, fun h6 => ?_⟩
 refine ⟨fun h7 => ?_, fun h7 => ?_⟩
 refine ⟨fun h8 => ?_, fun h8 => ?_⟩
 refine ?a3; rotate_left
 refine ?a4; rotate_left
 refine ?a5; rotate_left
 refine ?a6; rotate_left
 refine ?a7; rotate_left
 refine ?a8; rotate_left
 refine ?a9; rotate_left
 case a0 | a1 | a2 =>
  obtain ⟨f1, f2, f3, f4, f5, f6, f7⟩ := sure6_facts
  have e0 : Sy.rows (Value.tuple #[]) = [] := rfl
  try simp only [e0] at *
  first
  | exact True.intro
  | omega
  | exact ⟨⟨okR_isB .nil, by simp⟩, by omega, by omega⟩
  | exact ⟨okR_isB .nil, by simp⟩
  | exact ⟨⟨okR_isB f7, by omega⟩, by omega, by omega⟩
  | exact ⟨okR_isB f7, by omega⟩
 case a3 | a4 | a5 | a6 | a7 | a8 | a9 =>
  obtain ⟨f1, f2, f3, f4, f5, f6, f7⟩ := sure6_facts
  have e0 : Sy.rows (Value.tuple #[]) = [] := rfl
  simp only [e0] at *
  first
  | exact True.intro
  | rfl
  | (exfalso; omega)
  | (refine congrArg Value.bool ?_
     simp only [f1, f2, f3, f4, f5, f6]
     decide)
  | skip
theorem zc6g_sure6 : zc6c_sure6.Good Tryd.prog syG (zc6E [] [] [] []) := good_of_walk (Γ := ⟨[zb6c_seal, zb6c_kind, zb6c_open, zc6c_num], syG, [], [], []⟩) (ρ := zc6E [] [] [] []) sym sure6_w rfl (fun _ _ _ _ => (ok_cons (Con.Good.env (Con.Good.up zb6g_seal zc6up rfl) _ _ _ _) (ok_cons (Con.Good.env (Con.Good.up zb6g_kind zc6up rfl) _ _ _ _) (ok_cons (Con.Good.env (Con.Good.up zb6g_open zc6up rfl) _ _ _ _) (ok_cons (Con.Good.env zc6g_num _ _ _ _) ok_nil))))) sure6_h
end Go.Proofs.YtikfgnmljpjnbaaDoor
