/-
  BlobForms by the second engine.
-/
import Derived.Test.YtbjgopehomnpgaaDoorSyc
import Derived.Test.YtbjgopehomnpgaaDoorZ6b
namespace Go.Proofs.YtbjgopehomnpgaaDoor
open Go.RowKit Go.Extern.Stop Go.Stop Go.Extern Go.Proofs.YtbjgopehomnpgaaDoor.Sy
set_option linter.unusedVariables false
set_option linter.unusedSimpArgs false
theorem num06_any (n : Int) (w : World) (hg : w.cell? ⟨0, 0, none⟩ = some asHandle) : Calls Tryd.prog 46 #[errVal 182 n] w fun e w' => e = .returned (.int .i64 n) ∧ Below w.heap.size w w' := by
  unfold errVal
  split
  · rename_i h; subst h; exact num06_nil _
  · exact num06_err _ _ hg
theorem slV_nil : slV [] 1 = .tuple ([Value.int .u8 116, Value.int .u8 109, Value.int .u8 1, Value.int .u8 0, Value.int .u8 0] ++ (sumBytes (crcMore 0 (byL [Value.int .u8 116, Value.int .u8 109, Value.int .u8 1, Value.int .u8 0, Value.int .u8 0]))).map bV).toArray := rfl
theorem sure6_facts : slE [] 1 = 0 ∧ (Sy.rows (slV [] 1)).length = 9 ∧ kdE (Sy.rows (slV [] 1)) = 0 ∧ kdK (Sy.rows (slV [] 1)) = 1 ∧ kdN (Sy.rows (slV [] 1)) = 9 ∧ blE (Sy.rows (slV [] 1)) 6 = 3 ∧ isB (Sy.rows (slV [] 1)) := by
  have e : Sy.rows (slV [] 1) = [Value.int .u8 116, Value.int .u8 109, Value.int .u8 1, Value.int .u8 0, Value.int .u8 0] ++ (sumBytes (crcMore 0 (byL [Value.int .u8 116, Value.int .u8 109, Value.int .u8 1, Value.int .u8 0, Value.int .u8 0]))).map bV := rfl
  have hP : kdP (Sy.rows (slV [] 1)) := by
    rw [e]
    generalize crcMore 0 _ = s
    exact ⟨by simp [sumBytes], rfl, rfl, by show (1 : Int) ≤ 1; omega, by show (1 : Int) ≤ 6; omega, by show (0 : Int) + 256 * 0 ≤ 1024; omega⟩
  have hE : kdE (Sy.rows (slV [] 1)) = 0 := if_pos hP
  have hK : kdK (Sy.rows (slV [] 1)) = 1 := by
    unfold kdK
    rw [if_pos hP, e]
    rfl
  have hN : kdN (Sy.rows (slV [] 1)) = 9 := by
    unfold kdN
    rw [if_pos hP, e]
    rfl
  refine ⟨rfl, by rw [e]; simp [sumBytes], hE, hK, hN, ?_, by rw [e]; exact isB.app (.cons (by omega) (by omega) (.cons (by omega) (by omega) (.cons (by omega) (by omega) (.cons (by omega) (by omega) (.cons (by omega) (by omega) .nil))))) (isB_bV _)⟩
  unfold blE
  rw [hK, if_neg (by omega), if_pos (by omega)]
noncomputable def zc6I : Nat → List Value → Int
  | i, l => zb6I i l
noncomputable def zc6B : Nat → List Value → Bool
  | i, l => zb6B i l
noncomputable def zc6V : Nat → List Value → Value
  | i, l => zb6V i l
noncomputable abbrev zc6E (iv : List Int) (bv : List Bool) (vv : List Value) (sv : List ByteArray) : Env := { iv := iv, bv := bv, vv := vv, sv := sv, fi := zc6I, fb := zc6B, fv := zc6V, et := 182 }
theorem zc6up : Agree 10 3 9 (zb6E [] [] [] []) (zc6E [] [] [] []) := ⟨rfl, (by
    intro f hf
    funext l
    show zc6I f l = zb6I f l
    unfold zc6I
    split <;> first | rfl | omega), (by
    intro f hf
    funext l
    show zc6B f l = zb6B f l
    unfold zc6B
    split <;> first | rfl | omega), (by
    intro f hf
    funext l
    show zc6V f l = zb6V f l
    unfold zc6V
    split <;> first | rfl | omega)⟩
theorem zc6i_rn (l : Value) (k1 : IntKind) (k : Int) : zc6I 0 [l, .int k1 k] = ((getV (byL (rows l)) k.toNat : Nat) : Int) := rfl
theorem zc6i_ri (l : Value) : zc6I 1 [l] = rdI (byL (rows l)) := rfl
theorem zc6i_dn (l : Value) (s : Bool) : zc6I 2 [l, .bool s] = dnE (byL (rows l)) s := rfl
theorem zc6i_sum (l : Value) : zc6I 3 [l] = ((crcMore 0 (byL (rows l)) : Nat) : Int) := rfl
theorem zc6i_ope (l : Value) : zc6I 4 [l] = opnE (rows l) := rfl
theorem zc6i_sle (l : Value) (k1 : IntKind) (k : Int) : zc6I 5 [l, .int k1 k] = slE (rows l) k := rfl
theorem zc6i_kde (l : Value) : zc6I 6 [l] = kdE (rows l) := rfl
theorem zc6i_kdk (l : Value) : zc6I 7 [l] = kdK (rows l) := rfl
theorem zc6i_kdn (l : Value) : zc6I 8 [l] = kdN (rows l) := rfl
theorem zc6i_ble (l : Value) (k1 : IntKind) (k : Int) : zc6I 9 [l, .int k1 k] = blE (rows l) k := rfl
theorem zc6b_okr (l : Value) : zc6B 0 [l] = okR (rows l) := rfl
theorem zc6b_rs (l : Value) (s : Bool) (k1 : IntKind) (k : Int) : zc6B 1 [l, .bool s, .int k1 k] = getS (byL (rows l)) s k.toNat := rfl
theorem zc6b_otk (l : Value) (k1 : IntKind) (n : Int) : zc6B 2 [l, .int k1 n] = tlk (rows l) n.toNat := rfl
theorem zc6v_rl (l : Value) (k1 : IntKind) (k : Int) : zc6V 0 [l, .int k1 k] = Value.tuple ((getL (byL (rows l)) k.toNat).map bV).toArray := rfl
theorem zc6v_seal (l : Value) : zc6V 1 [l] = sealV (rows l) := rfl
theorem zc6v_opv (l : Value) : zc6V 2 [l] = opnV (rows l) := rfl
theorem zc6v_p1 (l : Value) (k1 : IntKind) (v : Int) : zc6V 3 [l, .int k1 v] = putV (rows l) v 1 := rfl
theorem zc6v_p2 (l : Value) (k1 : IntKind) (v : Int) : zc6V 4 [l, .int k1 v] = putV (rows l) v 2 := rfl
theorem zc6v_p4 (l : Value) (k1 : IntKind) (v : Int) : zc6V 5 [l, .int k1 v] = putV (rows l) v 4 := rfl
theorem zc6v_p8 (l : Value) (k1 : IntKind) (v : Int) : zc6V 6 [l, .int k1 v] = putV (rows l) v 8 := rfl
theorem zc6v_slv (l : Value) (k1 : IntKind) (k : Int) : zc6V 7 [l, .int k1 k] = slV (rows l) k := rfl
theorem zc6v_blv (l : Value) (k1 : IntKind) (k : Int) : zc6V 8 [l, .int k1 k] = blV (rows l) k := rfl
abbrev zc6c_num : Con := ⟨46, [(.err (.var 0))], (.tt true), (.int .i64 (.var 0)), ⟨1, 0, 0, 0⟩, none⟩
theorem zc6g_num : zc6c_num.Good Tryd.prog syG (zc6E [] [] [] []) := good_flat rfl rfl rfl (by
  intro n hc β ok w hG
  have hc' := hc
  simp only [Tree.holds, Sy.holds, AllN, Env.more, zc6E, List.cons_append, List.nil_append, List.append_nil, denV, denI, denB, denL, I2.den, VOp.den, List.getD_cons_zero, List.getD_cons_succ, Cst.den, syso, syse, syio, sybo, zc6i_rn, zc6i_ri, zc6i_dn, zc6i_sum, zc6i_ope, zc6i_sle, zc6i_kde, zc6i_kdk, zc6i_kdn, zc6i_ble, zc6b_okr, zc6b_rs, zc6b_otk, zc6v_rl, zc6v_seal, zc6v_opv, zc6v_p1, zc6v_p2, zc6v_p4, zc6v_p8, zc6v_slv, zc6v_blv, List.map_nil, List.map_cons, B2.ofInts, B2.denI, B2.denB, if_true, Bool.false_eq_true, if_false, Nat.div_one, Nat.mul_one, Nat.add_zero, holds] at hc
  exact num06_any n w (hG _ (List.mem_singleton.2 rfl)).2.2)
def sure6_tree : Tree :=
 (.need (.b2 .and (.bapp 0 (.cons (.tup .nil) .nil)) (.b2 .le (.ofI (.vop (.len 1) (.cons (.tup .nil) .nil))) (.lit (140737488355000))))
 (.need (.b2 .and (.bapp 0 (.cons (.vapp 7 (.cons (.tup .nil) (.cons (.int .u8 (.lit (1))) .nil))) .nil)) (.b2 .le (.ofI (.vop (.len 1) (.cons (.vapp 7 (.cons (.tup .nil) (.cons (.int .u8 (.lit (1))) .nil))) .nil))) (.lit (140737488355000))))
 (.need (.b2 .and (.bapp 0 (.cons (.vapp 7 (.cons (.tup .nil) (.cons (.int .u8 (.lit (1))) .nil))) .nil)) (.b2 .le (.ofI (.vop (.len 1) (.cons (.vapp 7 (.cons (.tup .nil) (.cons (.int .u8 (.lit (1))) .nil))) .nil))) (.lit (140737488355000))))
 (.br (.b2 .eq (.iapp 5 (.cons (.tup .nil) (.cons (.int .u8 (.lit (1))) .nil))) (.lit (0)))
 (.br (.b2 .eq (.iapp 6 (.cons (.vapp 7 (.cons (.tup .nil) (.cons (.int .u8 (.lit (1))) .nil))) .nil)) (.lit (0)))
 (.br (.b2 .eq (.ofI (.vop (.len 1) (.cons (.vapp 7 (.cons (.tup .nil) (.cons (.int .u8 (.lit (1))) .nil))) .nil))) (.lit (9)))
 (.br (.b2 .eq (.iapp 7 (.cons (.vapp 7 (.cons (.tup .nil) (.cons (.int .u8 (.lit (1))) .nil))) .nil)) (.lit (1)))
 (.br (.b2 .eq (.iapp 8 (.cons (.vapp 7 (.cons (.tup .nil) (.cons (.int .u8 (.lit (1))) .nil))) .nil)) (.lit (9)))
 (.br (.b2 .eq (.iapp 9 (.cons (.vapp 7 (.cons (.tup .nil) (.cons (.int .u8 (.lit (1))) .nil))) (.cons (.int .u8 (.lit (6))) .nil))) (.lit (3)))
 (.ret (.bool (.tt true)))
 (.ret (.bool (.tt false))))
 (.ret (.bool (.tt false))))
 (.ret (.bool (.tt false))))
 (.ret (.bool (.tt false))))
 (.ret (.bool (.tt false))))
 (.ret (.bool (.tt false)))))))
abbrev zc6c_sure6 : Con := ⟨39, [], (.tt true), (.bool (.tt true)), ⟨0, 0, 0, 0⟩, none⟩
theorem sure6_w : walk Tryd.prog 182 ⟨[zb6c_seal, zb6c_kind, zb6c_open, zc6c_num], syG, [], [], []⟩ [] .v zc6c_sure6 zc6c_sure6.n 3000 = some sure6_tree := by kernel_rfl
theorem sure6_h  (hc : holds (zc6E [] [] [] []) (.tt true)) (hty : patsTyp (zc6E [] [] [] []) []) : sure6_tree.holds (fun v_ => v_ = denV (zc6E [] [] [] []) b0 (.bool (.tt true))) (zc6E [] [] [] []) := by
  simp only [Tree.holds, Sy.holds, AllN, Env.more, zc6E, List.cons_append, List.nil_append, List.append_nil, denV, denI, denB, denL, I2.den, VOp.den, List.getD_cons_zero, List.getD_cons_succ, Cst.den, syso, syse, syio, sybo, zc6i_rn, zc6i_ri, zc6i_dn, zc6i_sum, zc6i_ope, zc6i_sle, zc6i_kde, zc6i_kdk, zc6i_kdn, zc6i_ble, zc6b_okr, zc6b_rs, zc6b_otk, zc6v_rl, zc6v_seal, zc6v_opv, zc6v_p1, zc6v_p2, zc6v_p4, zc6v_p8, zc6v_slv, zc6v_blv, List.map_nil, List.map_cons, B2.ofInts, B2.denI, B2.denB, if_true, Bool.false_eq_true, if_false, Nat.div_one, Nat.mul_one, Nat.add_zero, holds] at hc
  simp only [patsTyp, patTyp, patTypL, zc6E, denV, denL, List.getD_cons_zero, List.getD_cons_succ, and_true, true_and] at hty
  unfold sure6_tree
  simp only [Tree.holds, Sy.holds, AllN, Env.more, zc6E, List.cons_append, List.nil_append, List.append_nil, denV, denI, denB, denL, I2.den, VOp.den, List.getD_cons_zero, List.getD_cons_succ, Cst.den, syso, syse, syio, sybo, zc6i_rn, zc6i_ri, zc6i_dn, zc6i_sum, zc6i_ope, zc6i_sle, zc6i_kde, zc6i_kdk, zc6i_kdn, zc6i_ble, zc6b_okr, zc6b_rs, zc6b_otk, zc6v_rl, zc6v_seal, zc6v_opv, zc6v_p1, zc6v_p2, zc6v_p4, zc6v_p8, zc6v_slv, zc6v_blv, List.map_nil, List.map_cons, B2.ofInts, B2.denI, B2.denB, if_true, Bool.false_eq_true, if_false, Nat.div_one, Nat.mul_one, Nat.add_zero]
  refine ⟨?_, fun h0 => ?_⟩
  ·
   obtain ⟨f1, f2, f3, f4, f5, f6, f7⟩ := sure6_facts
   have e0 : Sy.rows (Value.tuple #[]) = [] := rfl
   try simp only [e0] at *
   first
   | exact True.intro
   | omega
   | exact ⟨⟨okR_isB .nil, by simp⟩, by omega, by omega⟩
   | exact ⟨okR_isB .nil, by simp⟩
   | exact ⟨⟨okR_isB f7, by omega⟩, by omega, by omega⟩
   | exact ⟨okR_isB f7, by omega⟩
  ·
   refine ⟨?_, fun h1 => ?_⟩
   ·
    obtain ⟨f1, f2, f3, f4, f5, f6, f7⟩ := sure6_facts
    have e0 : Sy.rows (Value.tuple #[]) = [] := rfl
    try simp only [e0] at *
    first
    | exact True.intro
    | omega
    | exact ⟨⟨okR_isB .nil, by simp⟩, by omega, by omega⟩
    | exact ⟨okR_isB .nil, by simp⟩
    | exact ⟨⟨okR_isB f7, by omega⟩, by omega, by omega⟩
    | exact ⟨okR_isB f7, by omega⟩
   ·
    refine ⟨?_, fun h2 => ?_⟩
    ·
     obtain ⟨f1, f2, f3, f4, f5, f6, f7⟩ := sure6_facts
     have e0 : Sy.rows (Value.tuple #[]) = [] := rfl
     try simp only [e0] at *
     first
     | exact True.intro
     | omega
     | exact ⟨⟨okR_isB .nil, by simp⟩, by omega, by omega⟩
     | exact ⟨okR_isB .nil, by simp⟩
     | exact ⟨⟨okR_isB f7, by omega⟩, by omega, by omega⟩
     | exact ⟨okR_isB f7, by omega⟩
    ·
     refine ⟨fun h3 => ?_, fun h3 => ?_⟩
     ·
      refine ⟨fun h4 => ?_, fun h4 => ?_⟩
      ·
       refine ⟨fun h5 => ?_, fun h5 => ?_⟩
       ·
        refine ⟨fun h6 => ?_, fun h6 => ?_⟩
        ·
         refine ⟨fun h7 => ?_, fun h7 => ?_⟩
         ·
          refine ⟨fun h8 => ?_, fun h8 => ?_⟩
          ·
           obtain ⟨f1, f2, f3, f4, f5, f6, f7⟩ := sure6_facts
           have e0 : Sy.rows (Value.tuple #[]) = [] := rfl
           simp only [e0] at *
           first
           | exact True.intro
           | rfl
           | (exfalso; omega)
           | (refine congrArg Value.bool ?_
              simp only [f1, f2, f3, f4, f5, f6]
              decide)
           | skip
          ·
           obtain ⟨f1, f2, f3, f4, f5, f6, f7⟩ := sure6_facts
           have e0 : Sy.rows (Value.tuple #[]) = [] := rfl
           simp only [e0] at *
           first
           | exact True.intro
           | rfl
           | (exfalso; omega)
           | (refine congrArg Value.bool ?_
              simp only [f1, f2, f3, f4, f5, f6]
              decide)
           | skip
         ·
          obtain ⟨f1, f2, f3, f4, f5, f6, f7⟩ := sure6_facts
          have e0 : Sy.rows (Value.tuple #[]) = [] := rfl
          simp only [e0] at *
          first
          | exact True.intro
          | rfl
          | (exfalso; omega)
          | (refine congrArg Value.bool ?_
             simp only [f1, f2, f3, f4, f5, f6]
             decide)
          | skip
        ·
         obtain ⟨f1, f2, f3, f4, f5, f6, f7⟩ := sure6_facts
         have e0 : Sy.rows (Value.tuple #[]) = [] := rfl
         simp only [e0] at *
         first
         | exact True.intro
         | rfl
         | (exfalso; omega)
         | (refine congrArg Value.bool ?_
            simp only [f1, f2, f3, f4, f5, f6]
            decide)
         | skip
       ·
        obtain ⟨f1, f2, f3, f4, f5, f6, f7⟩ := sure6_facts
        have e0 : Sy.rows (Value.tuple #[]) = [] := rfl
        simp only [e0] at *
        first
        | exact True.intro
        | rfl
        | (exfalso; omega)
        | (refine congrArg Value.bool ?_
           simp only [f1, f2, f3, f4, f5, f6]
           decide)
        | skip
      ·
       obtain ⟨f1, f2, f3, f4, f5, f6, f7⟩ := sure6_facts
       have e0 : Sy.rows (Value.tuple #[]) = [] := rfl
       simp only [e0] at *
       first
       | exact True.intro
       | rfl
       | (exfalso; omega)
       | (refine congrArg Value.bool ?_
          simp only [f1, f2, f3, f4, f5, f6]
          decide)
       | skip
     ·
      obtain ⟨f1, f2, f3, f4, f5, f6, f7⟩ := sure6_facts
      have e0 : Sy.rows (Value.tuple #[]) = [] := rfl
      simp only [e0] at *
      first
      | exact True.intro
      | rfl
      | (exfalso; omega)
      | (refine congrArg Value.bool ?_
         simp only [f1, f2, f3, f4, f5, f6]
         decide)
      | skip
theorem zc6g_sure6 : zc6c_sure6.Good Tryd.prog syG (zc6E [] [] [] []) := good_of_walk (Γ := ⟨[zb6c_seal, zb6c_kind, zb6c_open, zc6c_num], syG, [], [], []⟩) (ρ := zc6E [] [] [] []) sym sure6_w rfl (fun _ _ _ _ => (ok_cons (Con.Good.env (Con.Good.up zb6g_seal zc6up rfl) _ _ _ _) (ok_cons (Con.Good.env (Con.Good.up zb6g_kind zc6up rfl) _ _ _ _) (ok_cons (Con.Good.env (Con.Good.up zb6g_open zc6up rfl) _ _ _ _) (ok_cons (Con.Good.env zc6g_num _ _ _ _) ok_nil))))) (fun hc hty => sure6_h  hc hty)
def wForms_tree : Tree :=
 (.br (.b2 .lt (.lit (200)) (.ofI (.vop (.len 1) (.cons (.opq 0) .nil))))
 (.br (.b2 .le (.ofI (.vop (.len 1) (.cons (.opq 0) .nil))) (.lit (1024)))
 (.ret (.bool (.tt true)))
 (.br (.b2 .lt (.lit (3000)) (.ofI (.vop (.len 1) (.cons (.opq 0) .nil))))
 (.ret (.bool (.tt true)))
 (.br (.b2 .lt (.lit (300)) (.ofI (.vop (.len 1) (.cons (.opq 1) .nil))))
 (.ret (.bool (.tt true)))
 (.need (.b2 .and (.b2 .and (.bapp 0 (.cons (.opq 0) .nil)) (.b2 .le (.ofI (.vop (.len 1) (.cons (.opq 0) .nil))) (.lit (140737488355000)))) (.b2 .and (.b2 .le (.lit (0)) (.var 0)) (.b2 .le (.var 0) (.lit (255)))))
 (.need (.b2 .and (.b2 .and (.bapp 0 (.cons (.opq 0) .nil)) (.b2 .le (.ofI (.vop (.len 1) (.cons (.opq 0) .nil))) (.lit (140737488355000)))) (.b2 .and (.b2 .le (.lit (0)) (.var 0)) (.b2 .le (.var 0) (.lit (255)))))
 (.need (.b2 .and (.bapp 0 (.cons (.opq 1) .nil)) (.b2 .le (.ofI (.vop (.len 1) (.cons (.opq 1) .nil))) (.lit (140737488355000))))
 (.need (.b2 .and (.bapp 0 (.cons (.opq 1) .nil)) (.b2 .le (.ofI (.vop (.len 1) (.cons (.opq 1) .nil))) (.lit (140737488355000))))
 (.need (.b2 .and (.b2 .and (.bapp 0 (.cons (.opq 1) .nil)) (.b2 .le (.ofI (.vop (.len 1) (.cons (.opq 1) .nil))) (.lit (140737488355000)))) (.b2 .and (.b2 .le (.lit (0)) (.var 0)) (.b2 .le (.var 0) (.lit (255)))))
 (.need (.b2 .and (.b2 .and (.bapp 0 (.cons (.opq 1) .nil)) (.b2 .le (.ofI (.vop (.len 1) (.cons (.opq 1) .nil))) (.lit (140737488355000)))) (.b2 .and (.b2 .le (.lit (0)) (.var 0)) (.b2 .le (.var 0) (.lit (255)))))
 (.ret (.bool (.tt true))))))))))))
 (.br (.b2 .lt (.lit (3000)) (.ofI (.vop (.len 1) (.cons (.opq 0) .nil))))
 (.ret (.bool (.tt true)))
 (.br (.b2 .lt (.lit (300)) (.ofI (.vop (.len 1) (.cons (.opq 1) .nil))))
 (.ret (.bool (.tt true)))
 (.need (.b2 .and (.b2 .and (.bapp 0 (.cons (.opq 0) .nil)) (.b2 .le (.ofI (.vop (.len 1) (.cons (.opq 0) .nil))) (.lit (140737488355000)))) (.b2 .and (.b2 .le (.lit (0)) (.var 0)) (.b2 .le (.var 0) (.lit (255)))))
 (.need (.b2 .and (.b2 .and (.bapp 0 (.cons (.opq 0) .nil)) (.b2 .le (.ofI (.vop (.len 1) (.cons (.opq 0) .nil))) (.lit (140737488355000)))) (.b2 .and (.b2 .le (.lit (0)) (.var 0)) (.b2 .le (.var 0) (.lit (255)))))
 (.need (.b2 .and (.bapp 0 (.cons (.opq 1) .nil)) (.b2 .le (.ofI (.vop (.len 1) (.cons (.opq 1) .nil))) (.lit (140737488355000))))
 (.need (.b2 .and (.bapp 0 (.cons (.opq 1) .nil)) (.b2 .le (.ofI (.vop (.len 1) (.cons (.opq 1) .nil))) (.lit (140737488355000))))
 (.need (.b2 .and (.b2 .and (.bapp 0 (.cons (.opq 1) .nil)) (.b2 .le (.ofI (.vop (.len 1) (.cons (.opq 1) .nil))) (.lit (140737488355000)))) (.b2 .and (.b2 .le (.lit (0)) (.var 0)) (.b2 .le (.var 0) (.lit (255)))))
 (.need (.b2 .and (.b2 .and (.bapp 0 (.cons (.opq 1) .nil)) (.b2 .le (.ofI (.vop (.len 1) (.cons (.opq 1) .nil))) (.lit (140737488355000)))) (.b2 .and (.b2 .le (.lit (0)) (.var 0)) (.b2 .le (.var 0) (.lit (255)))))
 (.ret (.bool (.tt true))))))))))))
abbrev zc6c_wForms : Con := ⟨5, [(.int .u8 (.var 0)), (.hs .no (.cons (.int .u8) .nil) (.opq 0)), (.hs .no (.cons (.int .u8) .nil) (.opq 1))], (.b2 .and (.bapp 0 (.cons (.opq 0) .nil)) (.b2 .and (.bapp 0 (.cons (.opq 1) .nil)) (.b2 .and (.b2 .le (.lit (0)) (.var 0)) (.b2 .le (.var 0) (.lit (255)))))), (.bool (.tt true)), ⟨1, 0, 2, 0⟩, none⟩
theorem wForms_w : walk Tryd.prog 182 ⟨[zc6c_sure6, zb6c_seal, zb6c_rseal, zb6c_kind, zb6c_rkind, zb6c_open, zb6c_ropen, zc6c_num], syG, [], [], []⟩ [] .v zc6c_wForms zc6c_wForms.n 3000 = some wForms_tree := by kernel_rfl
theorem wForms_h (k : Int) (a : Value) (b : Value) (hc : holds (zc6E [k] [] [a, b] []) (.b2 .and (.bapp 0 (.cons (.opq 0) .nil)) (.b2 .and (.bapp 0 (.cons (.opq 1) .nil)) (.b2 .and (.b2 .le (.lit (0)) (.var 0)) (.b2 .le (.var 0) (.lit (255))))))) (hty : patsTyp (zc6E [k] [] [a, b] []) [(.int .u8 (.var 0)), (.hs .no (.cons (.int .u8) .nil) (.opq 0)), (.hs .no (.cons (.int .u8) .nil) (.opq 1))]) : wForms_tree.holds (fun v_ => v_ = denV (zc6E [k] [] [a, b] []) b0 (.bool (.tt true))) (zc6E [k] [] [a, b] []) := by
  simp only [Tree.holds, Sy.holds, AllN, Env.more, zc6E, List.cons_append, List.nil_append, List.append_nil, denV, denI, denB, denL, I2.den, VOp.den, List.getD_cons_zero, List.getD_cons_succ, Cst.den, syso, syse, syio, sybo, zc6i_rn, zc6i_ri, zc6i_dn, zc6i_sum, zc6i_ope, zc6i_sle, zc6i_kde, zc6i_kdk, zc6i_kdn, zc6i_ble, zc6b_okr, zc6b_rs, zc6b_otk, zc6v_rl, zc6v_seal, zc6v_opv, zc6v_p1, zc6v_p2, zc6v_p4, zc6v_p8, zc6v_slv, zc6v_blv, List.map_nil, List.map_cons, B2.ofInts, B2.denI, B2.denB, if_true, Bool.false_eq_true, if_false, Nat.div_one, Nat.mul_one, Nat.add_zero, holds] at hc
  simp only [patsTyp, patTyp, patTypL, zc6E, denV, denL, List.getD_cons_zero, List.getD_cons_succ, and_true, true_and] at hty
  have hL_a : typ (.sl (.cons (.int .u8) .nil)) a := by first | exact hty | exact hty.1 | exact hty.2 | exact hty.1.1 | exact hty.1.2 | exact hty.2.1 | exact hty.2.2 | exact hty.2.2.1 | exact hty.2.2.2
  have hN_a := typ_len (n := 1) hL_a rfl (by omega)
  simp only [Nat.div_one, Nat.mul_one] at hN_a
  have hL_b : typ (.sl (.cons (.int .u8) .nil)) b := by first | exact hty | exact hty.1 | exact hty.2 | exact hty.1.1 | exact hty.1.2 | exact hty.2.1 | exact hty.2.2 | exact hty.2.2.1 | exact hty.2.2.2
  have hN_b := typ_len (n := 1) hL_b rfl (by omega)
  simp only [Nat.div_one, Nat.mul_one] at hN_b
  unfold wForms_tree
  simp only [Tree.holds, Sy.holds, AllN, Env.more, zc6E, List.cons_append, List.nil_append, List.append_nil, denV, denI, denB, denL, I2.den, VOp.den, List.getD_cons_zero, List.getD_cons_succ, Cst.den, syso, syse, syio, sybo, zc6i_rn, zc6i_ri, zc6i_dn, zc6i_sum, zc6i_ope, zc6i_sle, zc6i_kde, zc6i_kdk, zc6i_kdn, zc6i_ble, zc6b_okr, zc6b_rs, zc6b_otk, zc6v_rl, zc6v_seal, zc6v_opv, zc6v_p1, zc6v_p2, zc6v_p4, zc6v_p8, zc6v_slv, zc6v_blv, List.map_nil, List.map_cons, B2.ofInts, B2.denI, B2.denB, if_true, Bool.false_eq_true, if_false, Nat.div_one, Nat.mul_one, Nat.add_zero]
  refine ⟨fun h0 => ?_, fun h0 => ?_⟩
  ·
   refine ⟨fun h1 => ?_, fun h1 => ?_⟩
   ·
    first
    | exact True.intro
    | rfl
    | (exfalso
       simp only [not_true_eq_false, not_false_eq_true] at *
       done)
   ·
    refine ⟨fun h2 => ?_, fun h2 => ?_⟩
    ·
     first
     | exact True.intro
     | rfl
     | (exfalso
        simp only [not_true_eq_false, not_false_eq_true] at *
        done)
    ·
     refine ⟨fun h3 => ?_, fun h3 => ?_⟩
     ·
      first
      | exact True.intro
      | rfl
      | (exfalso
         simp only [not_true_eq_false, not_false_eq_true] at *
         done)
     ·
      refine ⟨?_, fun h4 => ?_⟩
      ·
       first
       | exact True.intro
       | omega
       | exact ⟨⟨hc.1, by omega⟩, hc.2.2⟩
       | exact ⟨⟨hc.2.1, by omega⟩, hc.2.2⟩
       | exact ⟨hc.2.1, by omega⟩
      ·
       refine ⟨?_, fun h5 => ?_⟩
       ·
        first
        | exact True.intro
        | omega
        | exact ⟨⟨hc.1, by omega⟩, hc.2.2⟩
        | exact ⟨⟨hc.2.1, by omega⟩, hc.2.2⟩
        | exact ⟨hc.2.1, by omega⟩
       ·
        refine ⟨?_, fun h6 => ?_⟩
        ·
         first
         | exact True.intro
         | omega
         | exact ⟨⟨hc.1, by omega⟩, hc.2.2⟩
         | exact ⟨⟨hc.2.1, by omega⟩, hc.2.2⟩
         | exact ⟨hc.2.1, by omega⟩
        ·
         refine ⟨?_, fun h7 => ?_⟩
         ·
          first
          | exact True.intro
          | omega
          | exact ⟨⟨hc.1, by omega⟩, hc.2.2⟩
          | exact ⟨⟨hc.2.1, by omega⟩, hc.2.2⟩
          | exact ⟨hc.2.1, by omega⟩
         ·
          refine ⟨?_, fun h8 => ?_⟩
          ·
           first
           | exact True.intro
           | omega
           | exact ⟨⟨hc.1, by omega⟩, hc.2.2⟩
           | exact ⟨⟨hc.2.1, by omega⟩, hc.2.2⟩
           | exact ⟨hc.2.1, by omega⟩
          ·
           refine ⟨?_, fun h9 => ?_⟩
           ·
            first
            | exact True.intro
            | omega
            | exact ⟨⟨hc.1, by omega⟩, hc.2.2⟩
            | exact ⟨⟨hc.2.1, by omega⟩, hc.2.2⟩
            | exact ⟨hc.2.1, by omega⟩
           ·
            first
            | exact True.intro
            | rfl
            | (exfalso
               simp only [not_true_eq_false, not_false_eq_true] at *
               done)
  ·
   refine ⟨fun h10 => ?_, fun h10 => ?_⟩
   ·
    first
    | exact True.intro
    | rfl
    | (exfalso
       simp only [not_true_eq_false, not_false_eq_true] at *
       done)
   ·
    refine ⟨fun h11 => ?_, fun h11 => ?_⟩
    ·
     first
     | exact True.intro
     | rfl
     | (exfalso
        simp only [not_true_eq_false, not_false_eq_true] at *
        done)
    ·
     refine ⟨?_, fun h12 => ?_⟩
     ·
      first
      | exact True.intro
      | omega
      | exact ⟨⟨hc.1, by omega⟩, hc.2.2⟩
      | exact ⟨⟨hc.2.1, by omega⟩, hc.2.2⟩
      | exact ⟨hc.2.1, by omega⟩
     ·
      refine ⟨?_, fun h13 => ?_⟩
      ·
       first
       | exact True.intro
       | omega
       | exact ⟨⟨hc.1, by omega⟩, hc.2.2⟩
       | exact ⟨⟨hc.2.1, by omega⟩, hc.2.2⟩
       | exact ⟨hc.2.1, by omega⟩
      ·
       refine ⟨?_, fun h14 => ?_⟩
       ·
        first
        | exact True.intro
        | omega
        | exact ⟨⟨hc.1, by omega⟩, hc.2.2⟩
        | exact ⟨⟨hc.2.1, by omega⟩, hc.2.2⟩
        | exact ⟨hc.2.1, by omega⟩
       ·
        refine ⟨?_, fun h15 => ?_⟩
        ·
         first
         | exact True.intro
         | omega
         | exact ⟨⟨hc.1, by omega⟩, hc.2.2⟩
         | exact ⟨⟨hc.2.1, by omega⟩, hc.2.2⟩
         | exact ⟨hc.2.1, by omega⟩
        ·
         refine ⟨?_, fun h16 => ?_⟩
         ·
          first
          | exact True.intro
          | omega
          | exact ⟨⟨hc.1, by omega⟩, hc.2.2⟩
          | exact ⟨⟨hc.2.1, by omega⟩, hc.2.2⟩
          | exact ⟨hc.2.1, by omega⟩
         ·
          refine ⟨?_, fun h17 => ?_⟩
          ·
           first
           | exact True.intro
           | omega
           | exact ⟨⟨hc.1, by omega⟩, hc.2.2⟩
           | exact ⟨⟨hc.2.1, by omega⟩, hc.2.2⟩
           | exact ⟨hc.2.1, by omega⟩
          ·
           first
           | exact True.intro
           | rfl
           | (exfalso
              simp only [not_true_eq_false, not_false_eq_true] at *
              done)
theorem zc6g_wForms : zc6c_wForms.Good Tryd.prog syG (zc6E [] [] [] []) := good_of_walk (Γ := ⟨[zc6c_sure6, zb6c_seal, zb6c_rseal, zb6c_kind, zb6c_rkind, zb6c_open, zb6c_ropen, zc6c_num], syG, [], [], []⟩) (ρ := zc6E [] [] [] []) sym wForms_w rfl (fun _ _ _ _ => (ok_cons (Con.Good.env zc6g_sure6 _ _ _ _) (ok_cons (Con.Good.env (Con.Good.up zb6g_seal zc6up rfl) _ _ _ _) (ok_cons (Con.Good.env (Con.Good.up zb6g_rseal zc6up rfl) _ _ _ _) (ok_cons (Con.Good.env (Con.Good.up zb6g_kind zc6up rfl) _ _ _ _) (ok_cons (Con.Good.env (Con.Good.up zb6g_rkind zc6up rfl) _ _ _ _) (ok_cons (Con.Good.env (Con.Good.up zb6g_open zc6up rfl) _ _ _ _) (ok_cons (Con.Good.env (Con.Good.up zb6g_ropen zc6up rfl) _ _ _ _) (ok_cons (Con.Good.env zc6g_num _ _ _ _) ok_nil))))))))) (fun k a b hc hty => wForms_h k a b hc hty)
end Go.Proofs.YtbjgopehomnpgaaDoor
