/-
 Layer 28: policies that may be; what the law hands over.
-/
import Derived.Test.YtikfgnmljpjnbaaDoorSycpob
import Derived.Test.YtikfgnmljpjnbaaDoorZlpob
import Derived.Test.YtikfgnmljpjnbaaDoorNumpob
import Derived.Test.YtikfgnmljpjnbaaDoorW05gpob
namespace Go.Proofs.YtikfgnmljpjnbaaDoor
open Go.RowKit Go.Extern.Stop Go.Stop Go.Extern Go.Proofs.YtikfgnmljpjnbaaDoor.Sy
set_option linter.unusedVariables false
set_option linter.unusedSimpArgs false
theorem num28_any (n : Int) (w : World) (hg : w.cell? ⟨0, 0, none⟩ = some asHandle) : Calls Tryd.prog 20 #[errVal 101 n] w fun e w' => e = .returned (.int .i64 n) ∧ Below w.heap.size w w' := by
 unfold errVal
 split
 · rename_i h; subst h; exact num28_nil _
 · exact num28_err _ _ hg
def smP (k b a : Int) : Prop := 0 ≤ b ∧ b ≤ 43200 ∧ 0 ≤ a ∧ a ≤ 43200 ∧ (k = 0 ∧ b + a = 0 ∨ k = 1 ∧ 1 ≤ b + a ∨ k = 2 ∧ 3600 ≤ b + a)
instance (k b a : Int) : Decidable (smP k b a) := by unfold smP; infer_instance
def smE (k b a : Int) : Int := if smP k b a then 0 else 1
def e1I (b : Bool) : Int := if b then 0 else 1
def poP (k b a q w c : Int) (s : ByteArray) (f : Int) (l : List Value) : Prop := smP k b a ∧ 1 ≤ q ∧ q ≤ 68719476736 ∧ 0 ≤ w ∧ w ≤ 1099511627776 ∧ 1 ≤ c ∧ c ≤ 1125899906842624 ∧ chkI s f l = 0
instance (k b a q w c : Int) (s : ByteArray) (f : Int) (l : List Value) : Decidable (poP k b a q w c s f l) := by unfold poP; infer_instance
def poE (k b a q w c : Int) (s : ByteArray) (f : Int) (l : List Value) : Int := if poP k b a q w c s f l then 0 else 1
theorem sm_0 {k b a : Int} : smE k b a = 0 ↔ smP k b a := by unfold smE; split <;> simp_all
theorem e1_0 {b : Bool} : e1I b = 0 ↔ b = true := by unfold e1I; split <;> simp_all
theorem zon_chk {s : ByteArray} {f : Int} {l : List Value} : zoneB s f l = true ↔ chkI s f l = 0 := ⟨chk_yes, fun h => by
 by_cases z : zoneB s f l = true
 · exact z
 · rw [chk_no z] at h; exact absurd h (by decide)⟩
noncomputable def pb_I : Nat → List Value → Int
 | 21, [.int _ k, .int _ b, .int _ a] => smE k b a
 | 22, [.bool b] => e1I b
 | 23, [.int _ k, .int _ b, .int _ a, .int _ q, .int _ w, .int _ c, .string s, .int _ f, l] => poE k b a q w c s f (rows l)
 | i, l => zl_I i l
noncomputable def pb_B : Nat → List Value → Bool
 | 16, [.int _ k, .int _ b, .int _ a] => decide (smP k b a)
 | i, l => zl_B i l
noncomputable def pb_V : Nat → List Value → Value
 | i, l => zl_V i l
noncomputable abbrev pb_E (iv : List Int) (bv : List Bool) (vv : List Value) (sv : List ByteArray) : Env := { iv := iv, bv := bv, vv := vv, sv := sv, fi := pb_I, fb := pb_B, fv := pb_V, et := 101 }
set_option maxHeartbeats 8000000 in
theorem pb_up : Agree 21 16 18 (zl_E [] [] [] []) (pb_E [] [] [] []) := ⟨rfl, (by
   intro f hf
   funext l
   show pb_I f l = zl_I f l
   unfold pb_I
   split <;> first | omega | rfl), (by
   intro f hf
   funext l
   show pb_B f l = zl_B f l
   unfold pb_B
   split <;> first | omega | rfl), (by
   intro f hf
   funext l
   show pb_V f l = zl_V f l
   unfold pb_V
   split <;> first | omega | rfl)⟩
theorem pb_i_chk (s : ByteArray) (k1 : IntKind) (f : Int) (l : Value) : pb_I 12 [.string s, .int k1 f, l] = chkI s f (rows l) := rfl
theorem pb_i_sme (k1 : IntKind) (k : Int) (k2 : IntKind) (b : Int) (k3 : IntKind) (a : Int) : pb_I 21 [.int k1 k, .int k2 b, .int k3 a] = smE k b a := rfl
theorem pb_i_e1 (b : Bool) : pb_I 22 [.bool b] = e1I b := rfl
theorem pb_i_poe (k1 : IntKind) (k : Int) (k2 : IntKind) (b : Int) (k3 : IntKind) (a : Int) (k4 : IntKind) (q : Int) (k5 : IntKind) (w : Int) (k6 : IntKind) (c : Int) (s : ByteArray) (k7 : IntKind) (f : Int) (l : Value) : pb_I 23 [.int k1 k, .int k2 b, .int k3 a, .int k4 q, .int k5 w, .int k6 c, .string s, .int k7 f, l] = poE k b a q w c s f (rows l) := rfl
theorem pb_b_shn (l : Value) (k1 : IntKind) (n : Int) : pb_B 10 [l, .int k1 n] = shN (rows l) n.toNat := rfl
theorem pb_b_big (s : ByteArray) (l : Value) : pb_B 11 [.string s, l] = bigB s (rows l) := rfl
theorem pb_b_eqv (x : Value) (y : Value) : pb_B 12 [x, y] = eqV x y := rfl
theorem pb_b_tk (x : Value) (y : Value) (k1 : IntKind) (n : Int) : pb_B 13 [x, y, .int k1 n] = eqV x (tkV y n.toNat) := rfl
def lbig28_tree : Tree :=
 (.loop ⟨1, 0, 0, 0⟩ (.b2 .and (.b2 .le (.lit (0)) (.lit (0))) (.b2 .and (.b2 .le (.lit (0)) (.ofI (.vop (.len 3) (.cons (.opq 0) .nil)))) (.b2 .and (.b2 .le (.lit (0)) (.lit (60))) (.bapp 10 (.cons (.opq 0) (.cons (.int .i64 (.lit (0))) .nil)))))) (.b2 .and (.b2 .le (.lit (0)) (.var 1)) (.b2 .and (.b2 .le (.var 1) (.ofI (.vop (.len 3) (.cons (.opq 0) .nil)))) (.b2 .and (.b2 .le (.var 1) (.lit (60))) (.bapp 10 (.cons (.opq 0) (.cons (.int .i64 (.var 1)) .nil))))))
 (.br (.b2 .lt (.var 1) (.ofI (.vop (.len 3) (.cons (.opq 0) .nil))))
 (.br (.b2 .lt (.var 1) (.lit (60)))
 (.need (.b2 .and (.b2 .le (.lit (0)) (.var 1)) (.b2 .lt (.var 1) (.ofI (.vop (.len 3) (.cons (.opq 0) .nil)))))
 (.br (.b2 .lt (.lit (200)) (.blen (.vop (.ssel 3 2) (.cons (.opq 0) (.cons (.int .i64 (.var 1)) .nil)))))
 (.ret (.bool (.tt true)))
 (.back (.b2 .and (.b2 .le (.lit (0)) (.wrap .i64 (.i2 .add (.var 1) (.lit (1))))) (.b2 .and (.b2 .le (.wrap .i64 (.i2 .add (.var 1) (.lit (1)))) (.ofI (.vop (.len 3) (.cons (.opq 0) .nil)))) (.b2 .and (.b2 .le (.wrap .i64 (.i2 .add (.var 1) (.lit (1)))) (.lit (60))) (.bapp 10 (.cons (.opq 0) (.cons (.int .i64 (.wrap .i64 (.i2 .add (.var 1) (.lit (1))))) .nil)))))) (.i2 .sub (.ofI (.vop (.len 3) (.cons (.opq 0) .nil))) (.wrap .i64 (.i2 .add (.var 1) (.lit (1))))) (.i2 .sub (.ofI (.vop (.len 3) (.cons (.opq 0) .nil))) (.var 1)))))
 (.br (.b2 .lt (.lit (60)) (.ofI (.vop (.len 3) (.cons (.opq 0) .nil))))
 (.ret (.bool (.tt true)))
 (.ret (.bool (.b2 .lt (.lit (200)) (.blen (.str 0)))))))
 (.br (.b2 .lt (.lit (60)) (.ofI (.vop (.len 3) (.cons (.opq 0) .nil))))
 (.ret (.bool (.tt true)))
 (.ret (.bool (.b2 .lt (.lit (200)) (.blen (.str 0))))))))
abbrev pb_c_lbig28 : Con := ⟨12, [(.agg (.cons (.str 0) (.cons (.int .i64 (.var 0)) (.cons (.hs .no (.cons (.int .i64) (.cons (.int .i64) (.cons .str .nil))) (.opq 0)) .nil))))], (.tt true), (.bool (.bapp 11 (.cons (.str 0) (.cons (.opq 0) .nil)))), ⟨1, 0, 1, 1⟩, none⟩
theorem lbig28_w : walk Tryd.prog 101 ⟨[], syG, [], [], []⟩ [⟨0, ⟨1, 0, 0, 0⟩, [(3, (.int .i64 (.var 1)))], none, (.b2 .and (.b2 .le (.lit (0)) (.var 1)) (.b2 .and (.b2 .le (.var 1) (.ofI (.vop (.len 3) (.cons (.opq 0) .nil)))) (.b2 .and (.b2 .le (.var 1) (.lit (60))) (.bapp 10 (.cons (.opq 0) (.cons (.int .i64 (.var 1)) .nil)))))), (.i2 .sub (.ofI (.vop (.len 3) (.cons (.opq 0) .nil))) (.var 1)), 0, []⟩] .v pb_c_lbig28 pb_c_lbig28.n 3000 = some lbig28_tree := by kernel_rfl
theorem lbig28_h (fst : Int) (l : Value) (nm : ByteArray) : Hyp_ pb_c_lbig28 lbig28_tree (pb_E [fst] [] [l] [nm]) := by
 intro hc hty
 simp only [pb_c_lbig28, Sy.holds, pb_E, denV, denI, denB, denL, I2.den, VOp.den, List.getD_cons_zero, List.getD_cons_succ, Cst.den, syso, syse, syio, sybo, B2.ofInts, B2.denI, B2.denB, if_true, Bool.false_eq_true, if_false, Nat.div_one, Nat.mul_one, Nat.add_zero] at hc
 simp only [pb_c_lbig28, patsTyp, patTyp, patTypL, pb_E, denV, denL, List.getD_cons_zero, List.getD_cons_succ, and_true, true_and] at hty
 have hL_l : typ (.sl (.cons (.int .i64) (.cons (.int .i64) (.cons .str .nil)))) l := by first | exact hty | exact hty.1 | exact hty.2 | exact hty.1.1 | exact hty.1.2 | exact hty.2.1 | exact hty.2.2 | exact hty.2.2.1 | exact hty.2.2.2
 have hN_l := typ_len (n := 3) hL_l rfl (by omega)
 unfold lbig28_tree
 simp only [pb_c_lbig28, Tree.holds, Sy.holds, AllN, Env.more, pb_E, List.cons_append, List.nil_append, List.append_nil, denV, denI, denB, denL, I2.den, VOp.den, List.getD_cons_zero, List.getD_cons_succ, Cst.den, syso, syse, syio, sybo, pb_b_shn, pb_b_big, List.map_nil, List.map_cons, B2.ofInts, B2.denI, B2.denB, if_true, Bool.false_eq_true, if_false, Nat.div_one, Nat.mul_one, Nat.add_zero]
 refine ⟨?_, ?_⟩
 ·
  exact ⟨by omega, by omega, by omega, rfl⟩
 intro i0a hi0
 refine ⟨fun h0 => ?_, fun h0 => ?_⟩
 refine ⟨fun h1 => ?_, fun h1 => ?_⟩
 refine ⟨?_, fun h2 => ?_⟩
 ·
  omega
 refine ⟨fun h3 => ?_, fun h3 => ?_⟩
 refine ?a0; rotate_left
 have wf0 := wr_i64 (i0a + 1)
 refine ⟨?_, ?_⟩
 ·
  obtain ⟨hi1, hi2, hi3, hi4⟩ := hi0
  have e : IntKind.wrap .i64 (i0a + 1) = i0a + 1 := by omega
  rw [e, show (i0a + 1).toNat = i0a.toNat + 1 by omega, shN_succ, hi4]
  exact ⟨by omega, by omega, by omega, by simp only [Bool.true_and, decide_eq_true_eq]; omega⟩
 ·
  omega
 refine ⟨fun h4 => ?_, fun h4 => ?_⟩
 refine ?a1; rotate_left
 refine ?a2; rotate_left
 refine ⟨fun h5 => ?_, fun h5 => ?_⟩
 refine ?a3; rotate_left
 refine ?a4; rotate_left
 case a0 | a1 | a2 | a3 | a4 =>
  obtain ⟨hi1, hi2, hi3, hi4⟩ := hi0
  first
  | (have hm : shN (Sy.rows l) (min ((Sy.rows l).length / 3) 60) = false := Bool.eq_false_iff.2 fun h => by
       have := shN_get h (k := i0a.toNat) (by omega)
       omega
     simp only [bigB, hm, Bool.not_false, Bool.true_or]
     done)
  | (have hm : shN (Sy.rows l) (min ((Sy.rows l).length / 3) 60) = true := by
       rw [show min ((Sy.rows l).length / 3) 60 = i0a.toNat by omega]
       exact hi4
     refine congrArg Value.bool (Bool.eq_iff_iff.2 ?_)
     simp only [bigB, hm, Bool.not_true, Bool.false_or, Bool.or_eq_true, decide_eq_true_eq, true_iff]
     omega)
theorem pb_g_lbig28 : pb_c_lbig28.Good Tryd.prog syG (pb_E [] [] [] []) := good_of_walk (Γ := ⟨[], syG, [], [], []⟩) (ρ := pb_E [] [] [] []) sym lbig28_w rfl (fun _ _ _ _ => ok_nil) lbig28_h
def give28_tree : Tree :=
 (.loop ⟨1, 0, 1, 0⟩ (.b2 .and (.b2 .le (.lit (0)) (.lit (0))) (.b2 .and (.b2 .le (.lit (0)) (.ofI (.vop (.len 3) (.cons (.opq 0) .nil)))) (.bapp 13 (.cons (.tup .nil) (.cons (.opq 0) (.cons (.int .i64 (.lit (0))) .nil)))))) (.b2 .and (.b2 .le (.lit (0)) (.var 1)) (.b2 .and (.b2 .le (.var 1) (.ofI (.vop (.len 3) (.cons (.opq 0) .nil)))) (.bapp 13 (.cons (.opq 1) (.cons (.opq 0) (.cons (.int .i64 (.var 1)) .nil))))))
 (.br (.b2 .lt (.var 1) (.ofI (.vop (.len 3) (.cons (.opq 0) .nil))))
 (.need (.b2 .and (.b2 .le (.lit (0)) (.var 1)) (.b2 .lt (.var 1) (.ofI (.vop (.len 3) (.cons (.opq 0) .nil)))))
 (.need (.b2 .le (.i2 .add (.ofI (.vop (.len 3) (.cons (.opq 1) .nil))) (.lit (1))) (.lit (4398046511104)))
 (.back (.b2 .and (.b2 .le (.lit (0)) (.wrap .i64 (.i2 .add (.var 1) (.lit (1))))) (.b2 .and (.b2 .le (.wrap .i64 (.i2 .add (.var 1) (.lit (1)))) (.ofI (.vop (.len 3) (.cons (.opq 0) .nil)))) (.bapp 13 (.cons (.vop .cat (.cons (.opq 1) (.cons (.tup (.cons (.int .i64 (.ofI (.vop (.sel 3 0) (.cons (.opq 0) (.cons (.int .i64 (.var 1)) .nil))))) (.cons (.int .i64 (.ofI (.vop (.sel 3 1) (.cons (.opq 0) (.cons (.int .i64 (.var 1)) .nil))))) (.cons (.vop (.ssel 3 2) (.cons (.opq 0) (.cons (.int .i64 (.var 1)) .nil))) .nil)))) .nil))) (.cons (.opq 0) (.cons (.int .i64 (.wrap .i64 (.i2 .add (.var 1) (.lit (1))))) .nil)))))) (.i2 .sub (.ofI (.vop (.len 3) (.cons (.opq 0) .nil))) (.wrap .i64 (.i2 .add (.var 1) (.lit (1))))) (.i2 .sub (.ofI (.vop (.len 3) (.cons (.opq 0) .nil))) (.var 1)))))
 (.ret (.agg (.cons (.str 0) (.cons (.int .i64 (.var 0)) (.cons (.hs (.new 144) (.cons (.int .i64) (.cons (.int .i64) (.cons .str .nil))) (.opq 1)) .nil)))))))
abbrev pb_c_give28 : Con := ⟨45, [(.agg (.cons (.str 0) (.cons (.int .i64 (.var 0)) (.cons (.hs .no (.cons (.int .i64) (.cons (.int .i64) (.cons .str .nil))) (.opq 0)) .nil))))], (.b2 .le (.ofI (.vop (.len 3) (.cons (.opq 0) .nil))) (.lit (4398046511104))), (.agg (.cons (.str 0) (.cons (.int .i64 (.var 0)) (.cons (.hs (.new 144) (.cons (.int .i64) (.cons (.int .i64) (.cons .str .nil))) (.opq 0)) .nil)))), ⟨1, 0, 1, 1⟩, none⟩
theorem give28_w : walk Tryd.prog 101 ⟨[], syG, [], [], []⟩ [⟨0, ⟨1, 0, 1, 0⟩, [(4, (.int .i64 (.var 1)))], some [[(.str 0), (.int .i64 (.var 0)), (.hs .no (.cons (.int .i64) (.cons (.int .i64) (.cons .str .nil))) (.opq 0))], [(.cst (.strc [])), (.int .i64 (.lit (0))), (.cst .nilS)], [(.str 0), (.int .i64 (.var 0)), (.hs (.id 1000 144) (.cons (.int .i64) (.cons (.int .i64) (.cons .str .nil))) (.opq 1))]], (.b2 .and (.b2 .le (.lit (0)) (.var 1)) (.b2 .and (.b2 .le (.var 1) (.ofI (.vop (.len 3) (.cons (.opq 0) .nil)))) (.bapp 13 (.cons (.opq 1) (.cons (.opq 0) (.cons (.int .i64 (.var 1)) .nil)))))), (.i2 .sub (.ofI (.vop (.len 3) (.cons (.opq 0) .nil))) (.var 1)), 1, []⟩] (.agg (.cons .v (.cons .v (.cons (.o 144 (.cons (.int .i64) (.cons (.int .i64) (.cons .str .nil)))) .nil)))) pb_c_give28 pb_c_give28.n 3000 = some give28_tree := by kernel_rfl
theorem give28_h (fst : Int) (l : Value) (nm : ByteArray) : Hyp_ pb_c_give28 give28_tree (pb_E [fst] [] [l] [nm]) := by
 intro hc hty
 simp only [pb_c_give28, Sy.holds, pb_E, denV, denI, denB, denL, I2.den, VOp.den, List.getD_cons_zero, List.getD_cons_succ, Cst.den, syso, syse, syio, sybo, B2.ofInts, B2.denI, B2.denB, if_true, Bool.false_eq_true, if_false, Nat.div_one, Nat.mul_one, Nat.add_zero] at hc
 simp only [pb_c_give28, patsTyp, patTyp, patTypL, pb_E, denV, denL, List.getD_cons_zero, List.getD_cons_succ, and_true, true_and] at hty
 have hL_l : typ (.sl (.cons (.int .i64) (.cons (.int .i64) (.cons .str .nil)))) l := by first | exact hty | exact hty.1 | exact hty.2 | exact hty.1.1 | exact hty.1.2 | exact hty.2.1 | exact hty.2.2 | exact hty.2.2.1 | exact hty.2.2.2
 have hN_l := typ_len (n := 3) hL_l rfl (by omega)
 unfold give28_tree
 simp only [pb_c_give28, Tree.holds, Sy.holds, AllN, Env.more, pb_E, List.cons_append, List.nil_append, List.append_nil, denV, denI, denB, denL, I2.den, VOp.den, List.getD_cons_zero, List.getD_cons_succ, Cst.den, syso, syse, syio, sybo, pb_b_tk, List.map_nil, List.map_cons, B2.ofInts, B2.denI, B2.denB, if_true, Bool.false_eq_true, if_false, Nat.div_one, Nat.mul_one, Nat.add_zero]
 refine ⟨?_, ?_⟩
 ·
  exact ⟨by omega, by omega, eqV_iff.2 (by simp [tkV])⟩
 intro i0a i0b hi0
 refine ⟨fun h0 => ?_, fun h0 => ?_⟩
 refine ⟨?_, fun h1 => ?_⟩
 refine ?a0; rotate_left
 refine ⟨?_, fun h2 => ?_⟩
 refine ?a1; rotate_left
 have wf0 := wr_i64 (i0a + 1)
 refine ⟨?_, ?_⟩
 ·
  obtain ⟨hi1, hi2, hi3⟩ := hi0
  have e : IntKind.wrap .i64 (i0a + 1) = i0a + 1 := by omega
  rw [e, show (i0a + 1).toNat = i0a.toNat + 1 by omega]
  refine ⟨by omega, by omega, eqV_iff.2 ?_⟩
  obtain ⟨g1, g2, g3⟩ := typ_row hL_l (k := i0a.toNat) (by omega)
  rw [← g1, ← g2, ← g3, eqV_iff.1 hi3]
  simp only [tkV, zrows_tup]
  rw [take3 (by omega)]
 ·
  omega
 ·
  obtain ⟨hi1, hi2, hi3⟩ := hi0
  rw [eqV_iff.1 hi3, typ_all hL_l (by omega)]
 case a0 | a1 =>
  first
  | omega
  | (have hlen : (Sy.rows i0b).length = i0a.toNat * 3 := by
       rw [eqV_iff.1 hi0.2.2]
       simp only [tkV, zrows_tup, List.length_take]
       omega
     omega)
theorem pb_g_give28 : pb_c_give28.Good Tryd.prog syG (pb_E [] [] [] []) := good_of_walk (Γ := ⟨[], syG, [], [], []⟩) (ρ := pb_E [] [] [] []) sym give28_w rfl (fun _ _ _ _ => ok_nil) give28_h
def smck_tree : Tree :=
 (.br (.b2 .lt (.var 1) (.lit (0)))
 (.ret (.iface 101 (.int .i64 (.lit (1)))))
 (.br (.b2 .lt (.lit (43200)) (.var 1))
 (.ret (.iface 101 (.int .i64 (.lit (1)))))
 (.br (.b2 .lt (.var 2) (.lit (0)))
 (.ret (.iface 101 (.int .i64 (.lit (1)))))
 (.br (.b2 .lt (.lit (43200)) (.var 2))
 (.ret (.iface 101 (.int .i64 (.lit (1)))))
 (.br (.b2 .eq (.var 0) (.lit (0)))
 (.br (.not (.b2 .eq (.wrap .i64 (.i2 .add (.var 1) (.var 2))) (.lit (0))))
 (.ret (.iface 101 (.int .i64 (.lit (1)))))
 (.ret (.cst .nilI)))
 (.br (.b2 .eq (.var 0) (.lit (1)))
 (.br (.not (.b2 .le (.lit (1)) (.wrap .i64 (.i2 .add (.var 1) (.var 2)))))
 (.ret (.iface 101 (.int .i64 (.lit (1)))))
 (.ret (.cst .nilI)))
 (.br (.b2 .eq (.var 0) (.lit (2)))
 (.br (.not (.b2 .le (.lit (3600)) (.wrap .i64 (.i2 .add (.var 1) (.var 2)))))
 (.ret (.iface 101 (.int .i64 (.lit (1)))))
 (.ret (.cst .nilI)))
 (.ret (.iface 101 (.int .i64 (.lit (1))))))))))))
abbrev pb_c_smck : Con := ⟨59, [(.agg (.cons (.int .i64 (.var 0)) (.cons (.int .i64 (.var 1)) (.cons (.int .i64 (.var 2)) .nil))))], (.b2 .and (.b2 .and (.b2 .le (.lit (-9223372036854775808)) (.var 0)) (.b2 .le (.var 0) (.lit (9223372036854775807)))) (.b2 .and (.b2 .and (.b2 .le (.lit (-9223372036854775808)) (.var 1)) (.b2 .le (.var 1) (.lit (9223372036854775807)))) (.b2 .and (.b2 .le (.lit (-9223372036854775808)) (.var 2)) (.b2 .le (.var 2) (.lit (9223372036854775807)))))), (.err (.iapp 21 (.cons (.int .i64 (.var 0)) (.cons (.int .i64 (.var 1)) (.cons (.int .i64 (.var 2)) .nil))))), ⟨3, 0, 0, 0⟩, none⟩
theorem smck_w : walk Tryd.prog 101 ⟨[], syG, [], [], []⟩ [] .v pb_c_smck pb_c_smck.n 3000 = some smck_tree := by kernel_rfl
theorem smck_h (k b a : Int) : Hyp_ pb_c_smck smck_tree (pb_E [k, b, a] [] [] []) := by
 intro hc hty
 simp only [pb_c_smck, Sy.holds, pb_E, denV, denI, denB, denL, I2.den, VOp.den, List.getD_cons_zero, List.getD_cons_succ, Cst.den, syso, syse, syio, sybo, B2.ofInts, B2.denI, B2.denB, if_true, Bool.false_eq_true, if_false, Nat.div_one, Nat.mul_one, Nat.add_zero] at hc
 simp only [pb_c_smck, patsTyp, patTyp, patTypL, pb_E, denV, denL, List.getD_cons_zero, List.getD_cons_succ, and_true, true_and] at hty
 unfold smck_tree
 simp only [pb_c_smck, Tree.holds, Sy.holds, pb_E, denV, denI, denB, denL, I2.den, VOp.den, List.getD_cons_zero, List.getD_cons_succ, Cst.den, syso, syse, syio, sybo, pb_i_sme, B2.ofInts, B2.denI, B2.denB, if_true, Bool.false_eq_true, if_false, Nat.div_one, Nat.mul_one, Nat.add_zero]
 have w1 := wr_i64 (b + a)
 refine ⟨fun h0 => ?_, fun h0 => ?_⟩
 refine ?a0; rotate_left
 refine ⟨fun h1 => ?_, fun h1 => ?_⟩
 refine ?a1; rotate_left
 refine ⟨fun h2 => ?_, fun h2 => ?_⟩
 refine ?a2; rotate_left
 refine ⟨fun h3 => ?_, fun h3 => ?_⟩
 refine ?a3; rotate_left
 refine ⟨fun h4 => ?_, fun h4 => ?_⟩
 refine ⟨fun h5 => ?_, fun h5 => ?_⟩
 refine ?a4; rotate_left
 refine ?a5; rotate_left
 refine ⟨fun h6 => ?_, fun h6 => ?_⟩
 refine ⟨fun h7 => ?_, fun h7 => ?_⟩
 refine ?a6; rotate_left
 refine ?a7; rotate_left
 refine ⟨fun h8 => ?_, fun h8 => ?_⟩
 refine ⟨fun h9 => ?_, fun h9 => ?_⟩
 refine ?a8; rotate_left
 refine ?a9; rotate_left
 refine ?a10; rotate_left
 case a0 | a1 | a2 | a3 | a4 | a5 | a6 | a7 | a8 | a9 | a10 =>
  first
  | (exfalso; omega)
  | (have h : smP k b a := (by unfold smP; omega)
     rw [show smE k b a = 0 from if_pos h]
     first | done | rfl)
  | (have h : ¬ smP k b a := (by unfold smP; omega)
     rw [show smE k b a = 1 from if_neg h]
     first | done | rfl)
  | skip
theorem pb_g_smck : pb_c_smck.Good Tryd.prog syG (pb_E [] [] [] []) := good_of_walk (Γ := ⟨[], syG, [], [], []⟩) (ρ := pb_E [] [] [] []) sym smck_w rfl (fun _ _ _ _ => ok_nil) smck_h
def qck_tree : Tree :=
 (.br (.b2 .lt (.var 0) (.lit (1)))
 (.ret (.iface 101 (.int .i64 (.lit (1)))))
 (.br (.b2 .lt (.lit (68719476736)) (.var 0))
 (.ret (.iface 101 (.int .i64 (.lit (1)))))
 (.ret (.cst .nilI))))
abbrev pb_c_qck : Con := ⟨60, [(.int .i64 (.var 0))], (.tt true), (.err (.iapp 22 (.cons (.bool (.b2 .and (.b2 .le (.lit (1)) (.var 0)) (.b2 .le (.var 0) (.lit (68719476736))))) .nil))), ⟨1, 0, 0, 0⟩, none⟩
theorem qck_w : walk Tryd.prog 101 ⟨[], syG, [], [], []⟩ [] .v pb_c_qck pb_c_qck.n 3000 = some qck_tree := by kernel_rfl
theorem qck_h (q : Int) : Hyp_ pb_c_qck qck_tree (pb_E [q] [] [] []) := by
 intro hc hty
 simp only [pb_c_qck, Sy.holds, pb_E, denV, denI, denB, denL, I2.den, VOp.den, List.getD_cons_zero, List.getD_cons_succ, Cst.den, syso, syse, syio, sybo, B2.ofInts, B2.denI, B2.denB, if_true, Bool.false_eq_true, if_false, Nat.div_one, Nat.mul_one, Nat.add_zero] at hc
 simp only [pb_c_qck, patsTyp, patTyp, patTypL, pb_E, denV, denL, List.getD_cons_zero, List.getD_cons_succ, and_true, true_and] at hty
 unfold qck_tree
 simp only [pb_c_qck, Tree.holds, Sy.holds, pb_E, denV, denI, denB, denL, I2.den, VOp.den, List.getD_cons_zero, List.getD_cons_succ, Cst.den, syso, syse, syio, sybo, pb_i_e1, B2.ofInts, B2.denI, B2.denB, if_true, Bool.false_eq_true, if_false, Nat.div_one, Nat.mul_one, Nat.add_zero]
 refine ⟨fun h0 => ?_, fun h0 => ?_⟩
 refine ?a0; rotate_left
 refine ⟨fun h1 => ?_, fun h1 => ?_⟩
 refine ?a1; rotate_left
 refine ?a2; rotate_left
 case a0 | a1 | a2 =>
  first
  | (rw [show (decide (1 ≤ q) && decide (q ≤ 68719476736)) = true by (rw [decide_eq_true (show 1 ≤ q by omega), decide_eq_true (show q ≤ 68719476736 by omega)]; rfl)]; first | done | rfl)
  | (rw [show (decide (1 ≤ q) && decide (q ≤ 68719476736)) = false by (refine Bool.eq_false_iff.2 ?_; simp only [ne_eq, Bool.and_eq_true, decide_eq_true_eq]; omega)]; first | done | rfl)
  | skip
theorem pb_g_qck : pb_c_qck.Good Tryd.prog syG (pb_E [] [] [] []) := good_of_walk (Γ := ⟨[], syG, [], [], []⟩) (ρ := pb_E [] [] [] []) sym qck_w rfl (fun _ _ _ _ => ok_nil) qck_h
def fck_tree : Tree :=
 (.br (.b2 .lt (.var 0) (.lit (0)))
 (.ret (.iface 101 (.int .i64 (.lit (1)))))
 (.br (.b2 .lt (.lit (1099511627776)) (.var 0))
 (.ret (.iface 101 (.int .i64 (.lit (1)))))
 (.br (.b2 .lt (.var 1) (.lit (1)))
 (.ret (.iface 101 (.int .i64 (.lit (1)))))
 (.br (.b2 .lt (.lit (1125899906842624)) (.var 1))
 (.ret (.iface 101 (.int .i64 (.lit (1)))))
 (.ret (.cst .nilI))))))
abbrev pb_c_fck : Con := ⟨61, [(.agg (.cons (.int .i64 (.var 0)) (.cons (.int .i64 (.var 1)) .nil)))], (.tt true), (.err (.iapp 22 (.cons (.bool (.b2 .and (.b2 .le (.lit (0)) (.var 0)) (.b2 .and (.b2 .le (.var 0) (.lit (1099511627776))) (.b2 .and (.b2 .le (.lit (1)) (.var 1)) (.b2 .le (.var 1) (.lit (1125899906842624))))))) .nil))), ⟨2, 0, 0, 0⟩, none⟩
theorem fck_w : walk Tryd.prog 101 ⟨[], syG, [], [], []⟩ [] .v pb_c_fck pb_c_fck.n 3000 = some fck_tree := by kernel_rfl
theorem fck_h (w c : Int) : Hyp_ pb_c_fck fck_tree (pb_E [w, c] [] [] []) := by
 intro hc hty
 simp only [pb_c_fck, Sy.holds, pb_E, denV, denI, denB, denL, I2.den, VOp.den, List.getD_cons_zero, List.getD_cons_succ, Cst.den, syso, syse, syio, sybo, B2.ofInts, B2.denI, B2.denB, if_true, Bool.false_eq_true, if_false, Nat.div_one, Nat.mul_one, Nat.add_zero] at hc
 simp only [pb_c_fck, patsTyp, patTyp, patTypL, pb_E, denV, denL, List.getD_cons_zero, List.getD_cons_succ, and_true, true_and] at hty
 unfold fck_tree
 simp only [pb_c_fck, Tree.holds, Sy.holds, pb_E, denV, denI, denB, denL, I2.den, VOp.den, List.getD_cons_zero, List.getD_cons_succ, Cst.den, syso, syse, syio, sybo, pb_i_e1, B2.ofInts, B2.denI, B2.denB, if_true, Bool.false_eq_true, if_false, Nat.div_one, Nat.mul_one, Nat.add_zero]
 refine ⟨fun h0 => ?_, fun h0 => ?_⟩
 refine ?a0; rotate_left
 refine ⟨fun h1 => ?_, fun h1 => ?_⟩
 refine ?a1; rotate_left
 refine ⟨fun h2 => ?_, fun h2 => ?_⟩
 refine ?a2; rotate_left
 refine ⟨fun h3 => ?_, fun h3 => ?_⟩
 refine ?a3; rotate_left
 refine ?a4; rotate_left
 case a0 | a1 | a2 | a3 | a4 =>
  first
  | (rw [show (decide (0 ≤ w) && (decide (w ≤ 1099511627776) && (decide (1 ≤ c) && decide (c ≤ 1125899906842624)))) = true by (simp only [Bool.and_eq_true, decide_eq_true_eq]; omega)]; first | done | rfl)
  | (rw [show (decide (0 ≤ w) && (decide (w ≤ 1099511627776) && (decide (1 ≤ c) && decide (c ≤ 1125899906842624)))) = false by (refine Bool.eq_false_iff.2 ?_; simp only [ne_eq, Bool.and_eq_true, decide_eq_true_eq]; omega)]; first | done | rfl)
  | skip
theorem pb_g_fck : pb_c_fck.Good Tryd.prog syG (pb_E [] [] [] []) := good_of_walk (Γ := ⟨[], syG, [], [], []⟩) (ρ := pb_E [] [] [] []) sym fck_w rfl (fun _ _ _ _ => ok_nil) fck_h
def pock_tree : Tree :=
 (.need (.b2 .and (.b2 .and (.b2 .le (.lit (-9223372036854775808)) (.var 0)) (.b2 .le (.var 0) (.lit (9223372036854775807)))) (.b2 .and (.b2 .and (.b2 .le (.lit (-9223372036854775808)) (.var 1)) (.b2 .le (.var 1) (.lit (9223372036854775807)))) (.b2 .and (.b2 .le (.lit (-9223372036854775808)) (.var 2)) (.b2 .le (.var 2) (.lit (9223372036854775807))))))
 (.br (.not (.b2 .eq (.iapp 21 (.cons (.int .i64 (.var 0)) (.cons (.int .i64 (.var 1)) (.cons (.int .i64 (.var 2)) .nil)))) (.lit (0))))
 (.ret (.iface 101 (.int .i64 (.lit (1)))))
 (.br (.not (.b2 .eq (.iapp 22 (.cons (.bool (.b2 .and (.b2 .le (.lit (1)) (.var 3)) (.b2 .le (.var 3) (.lit (68719476736))))) .nil)) (.lit (0))))
 (.ret (.iface 101 (.int .i64 (.lit (1)))))
 (.br (.not (.b2 .eq (.iapp 22 (.cons (.bool (.b2 .and (.b2 .le (.lit (0)) (.var 4)) (.b2 .and (.b2 .le (.var 4) (.lit (1099511627776))) (.b2 .and (.b2 .le (.lit (1)) (.var 5)) (.b2 .le (.var 5) (.lit (1125899906842624))))))) .nil)) (.lit (0))))
 (.ret (.iface 101 (.int .i64 (.lit (1)))))
 (.br (.not (.b2 .eq (.iapp 12 (.cons (.str 0) (.cons (.int .i64 (.var 6)) (.cons (.opq 0) .nil)))) (.lit (0))))
 (.ret (.iface 101 (.int .i64 (.lit (1)))))
 (.ret (.cst .nilI)))))))
abbrev pb_c_pock : Con := ⟨21, [(.agg (.cons (.int .i64 (.var 0)) (.cons (.int .i64 (.var 1)) (.cons (.int .i64 (.var 2)) (.cons (.int .i64 (.var 3)) (.cons (.int .i64 (.var 4)) (.cons (.int .i64 (.var 5)) (.cons (.bool (.bvar 0)) (.cons (.str 0) (.cons (.int .i64 (.var 6)) (.cons (.hs .no (.cons (.int .i64) (.cons (.int .i64) (.cons .str .nil))) (.opq 0)) .nil)))))))))))], (.b2 .and (.b2 .and (.b2 .le (.lit (-9223372036854775808)) (.var 0)) (.b2 .le (.var 0) (.lit (9223372036854775807)))) (.b2 .and (.b2 .and (.b2 .le (.lit (-9223372036854775808)) (.var 1)) (.b2 .le (.var 1) (.lit (9223372036854775807)))) (.b2 .and (.b2 .and (.b2 .le (.lit (-9223372036854775808)) (.var 2)) (.b2 .le (.var 2) (.lit (9223372036854775807)))) (.b2 .and (.b2 .and (.b2 .le (.lit (-9223372036854775808)) (.var 3)) (.b2 .le (.var 3) (.lit (9223372036854775807)))) (.b2 .and (.b2 .and (.b2 .le (.lit (-9223372036854775808)) (.var 4)) (.b2 .le (.var 4) (.lit (9223372036854775807)))) (.b2 .and (.b2 .and (.b2 .le (.lit (-9223372036854775808)) (.var 5)) (.b2 .le (.var 5) (.lit (9223372036854775807)))) (.b2 .and (.b2 .le (.lit (-9223372036854775808)) (.var 6)) (.b2 .le (.var 6) (.lit (9223372036854775807)))))))))), (.err (.iapp 23 (.cons (.int .i64 (.var 0)) (.cons (.int .i64 (.var 1)) (.cons (.int .i64 (.var 2)) (.cons (.int .i64 (.var 3)) (.cons (.int .i64 (.var 4)) (.cons (.int .i64 (.var 5)) (.cons (.str 0) (.cons (.int .i64 (.var 6)) (.cons (.opq 0) .nil))))))))))), ⟨7, 1, 1, 1⟩, none⟩
theorem pock_w : walk Tryd.prog 101 ⟨[pb_c_smck, pb_c_qck, pb_c_fck, zzc_zck], syG, [], [], []⟩ [] .v pb_c_pock pb_c_pock.n 3000 = some pock_tree := by kernel_rfl
theorem pock_h (k b a q w c f : Int) (j : Bool) (l : Value) (s : ByteArray) : Hyp_ pb_c_pock pock_tree (pb_E [k, b, a, q, w, c, f] [j] [l] [s]) := by
 intro hc hty
 simp only [pb_c_pock, Sy.holds, pb_E, denV, denI, denB, denL, I2.den, VOp.den, List.getD_cons_zero, List.getD_cons_succ, Cst.den, syso, syse, syio, sybo, B2.ofInts, B2.denI, B2.denB, if_true, Bool.false_eq_true, if_false, Nat.div_one, Nat.mul_one, Nat.add_zero] at hc
 simp only [pb_c_pock, patsTyp, patTyp, patTypL, pb_E, denV, denL, List.getD_cons_zero, List.getD_cons_succ, and_true, true_and] at hty
 have hL_l : typ (.sl (.cons (.int .i64) (.cons (.int .i64) (.cons .str .nil)))) l := by first | exact hty | exact hty.1 | exact hty.2 | exact hty.1.1 | exact hty.1.2 | exact hty.2.1 | exact hty.2.2 | exact hty.2.2.1 | exact hty.2.2.2
 have hN_l := typ_len (n := 3) hL_l rfl (by omega)
 unfold pock_tree
 simp only [pb_c_pock, Tree.holds, Sy.holds, pb_E, denV, denI, denB, denL, I2.den, VOp.den, List.getD_cons_zero, List.getD_cons_succ, Cst.den, syso, syse, syio, sybo, pb_i_chk, pb_i_sme, pb_i_e1, pb_i_poe, B2.ofInts, B2.denI, B2.denB, if_true, Bool.false_eq_true, if_false, Nat.div_one, Nat.mul_one, Nat.add_zero]
 refine ⟨?_, fun h0 => ?_⟩
 ·
  first
  | exact ⟨by omega, by omega, by omega⟩
  | omega
  | skip
 refine ⟨fun h1 => ?_, fun h1 => ?_⟩
 refine ?a0; rotate_left
 refine ⟨fun h2 => ?_, fun h2 => ?_⟩
 refine ?a1; rotate_left
 refine ⟨fun h3 => ?_, fun h3 => ?_⟩
 refine ?a2; rotate_left
 refine ⟨fun h4 => ?_, fun h4 => ?_⟩
 refine ?a3; rotate_left
 refine ?a4; rotate_left
 case a0 | a1 | a2 | a3 | a4 =>
  simp only [sm_0, e1_0, Bool.and_eq_true, decide_eq_true_eq, Decidable.not_not] at *
  first
  | (have p : poP k b a q w c s f (Sy.rows l) := ⟨by assumption, by omega, by omega, by omega, by omega, by omega, by omega, by assumption⟩
     rw [show poE k b a q w c s f (Sy.rows l) = 0 from if_pos p]
     first | done | rfl)
  | (have p : ¬ poP k b a q w c s f (Sy.rows l) := (fun p => by
       obtain ⟨p1, p2, p3, p4, p5, p6, p7, p8⟩ := p
       first | contradiction | omega)
     rw [show poE k b a q w c s f (Sy.rows l) = 1 from if_neg p]
     first | done | rfl)
  | skip
theorem pb_g_pock : pb_c_pock.Good Tryd.prog syG (pb_E [] [] [] []) := good_of_walk (Γ := ⟨[pb_c_smck, pb_c_qck, pb_c_fck, zzc_zck], syG, [], [], []⟩) (ρ := pb_E [] [] [] []) sym pock_w rfl (fun _ _ _ _ => (ok_cons (Con.Good.env pb_g_smck _ _ _ _) (ok_cons (Con.Good.env pb_g_qck _ _ _ _) (ok_cons (Con.Good.env pb_g_fck _ _ _ _) (ok_cons (Con.Good.env (Con.Good.up (Con.Good.up (Con.Good.up (Con.Good.up (Con.Good.up (Con.Good.up (Con.Good.up zzg_zck ztup rfl) zzbup rfl) zzcup rfl) zzdup rfl) zzeup rfl) zl_up rfl) pb_up rfl) _ _ _ _) ok_nil))))) pock_h
def usual_tree : Tree :=
 (.ret (.agg (.cons (.int .i64 (.lit (0))) (.cons (.int .i64 (.lit (0))) (.cons (.int .i64 (.lit (0))) (.cons (.int .i64 (.lit (1))) (.cons (.int .i64 (.lit (0))) (.cons (.int .i64 (.lit (1))) (.cons (.bool (.tt false)) (.cons (.cst (.strc [85, 84, 67])) (.cons (.int .i64 (.lit (0))) (.cons (.cst .nilS) .nil))))))))))))
abbrev pb_c_usual : Con := ⟨41, [], (.tt true), (.agg (.cons (.int .i64 (.lit (0))) (.cons (.int .i64 (.lit (0))) (.cons (.int .i64 (.lit (0))) (.cons (.int .i64 (.lit (1))) (.cons (.int .i64 (.lit (0))) (.cons (.int .i64 (.lit (1))) (.cons (.bool (.tt false)) (.cons (.cst (.strc [85, 84, 67])) (.cons (.int .i64 (.lit (0))) (.cons (.cst .nilS) .nil))))))))))), ⟨0, 0, 0, 0⟩, none⟩
theorem usual_w : walk Tryd.prog 101 ⟨[], syG, [], [], []⟩ [] .v pb_c_usual pb_c_usual.n 3000 = some usual_tree := by kernel_rfl
theorem usual_h : Hyp_ pb_c_usual usual_tree (pb_E [] [] [] []) := by
 intro hc hty
 simp only [pb_c_usual, Sy.holds, pb_E, denV, denI, denB, denL, I2.den, VOp.den, List.getD_cons_zero, List.getD_cons_succ, Cst.den, syso, syse, syio, sybo, List.map_nil, List.map_cons, B2.ofInts, B2.denI, B2.denB, if_true, Bool.false_eq_true, if_false, Nat.div_one, Nat.mul_one, Nat.add_zero] at hc
 simp only [pb_c_usual, patsTyp, patTyp, patTypL, pb_E, denV, denL, List.getD_cons_zero, List.getD_cons_succ, and_true, true_and] at hty
 unfold usual_tree
 simp only [pb_c_usual, Tree.holds, Sy.holds, pb_E, denV, denI, denB, denL, I2.den, VOp.den, List.getD_cons_zero, List.getD_cons_succ, Cst.den, syso, syse, syio, sybo, List.map_nil, List.map_cons, B2.ofInts, B2.denI, B2.denB, if_true, Bool.false_eq_true, if_false, Nat.div_one, Nat.mul_one, Nat.add_zero]
 all_goals first | omega | rfl | (simp only [Value.tuple.injEq, Value.agg.injEq, Value.int.injEq, Value.bool.injEq, Array.mk.injEq, List.cons.injEq, true_and, and_true]; omega) | (refine congrArg Value.bool (Bool.eq_iff_iff.2 ?_); simp only [beq_iff_eq, decide_eq_true_eq, true_iff, false_iff, Bool.false_eq_true, Bool.not_eq_true', Bool.and_eq_true, Bool.or_eq_true, decide_eq_false_iff_not]; omega)
theorem pb_g_usual : pb_c_usual.Good Tryd.prog syG (pb_E [] [] [] []) := good_of_walk (Γ := ⟨[], syG, [], [], []⟩) (ρ := pb_E [] [] [] []) sym usual_w rfl (fun _ _ _ _ => ok_nil) usual_h
def givep_tree : Tree :=
 (.need (.b2 .le (.ofI (.vop (.len 3) (.cons (.opq 0) .nil))) (.lit (4398046511104)))
 (.ret (.agg (.cons (.int .i64 (.var 0)) (.cons (.int .i64 (.var 1)) (.cons (.int .i64 (.var 2)) (.cons (.int .i64 (.var 3)) (.cons (.int .i64 (.var 4)) (.cons (.int .i64 (.var 5)) (.cons (.bool (.bvar 0)) (.cons (.str 0) (.cons (.int .i64 (.var 6)) (.cons (.hs (.new 144) (.cons (.int .i64) (.cons (.int .i64) (.cons .str .nil))) (.opq 0)) .nil)))))))))))))
abbrev pb_c_givep : Con := ⟨15, [(.agg (.cons (.int .i64 (.var 0)) (.cons (.int .i64 (.var 1)) (.cons (.int .i64 (.var 2)) (.cons (.int .i64 (.var 3)) (.cons (.int .i64 (.var 4)) (.cons (.int .i64 (.var 5)) (.cons (.bool (.bvar 0)) (.cons (.str 0) (.cons (.int .i64 (.var 6)) (.cons (.hs .no (.cons (.int .i64) (.cons (.int .i64) (.cons .str .nil))) (.opq 0)) .nil)))))))))))], (.b2 .le (.ofI (.vop (.len 3) (.cons (.opq 0) .nil))) (.lit (4398046511104))), (.agg (.cons (.int .i64 (.var 0)) (.cons (.int .i64 (.var 1)) (.cons (.int .i64 (.var 2)) (.cons (.int .i64 (.var 3)) (.cons (.int .i64 (.var 4)) (.cons (.int .i64 (.var 5)) (.cons (.bool (.bvar 0)) (.cons (.str 0) (.cons (.int .i64 (.var 6)) (.cons (.hs (.new 144) (.cons (.int .i64) (.cons (.int .i64) (.cons .str .nil))) (.opq 0)) .nil))))))))))), ⟨7, 1, 1, 1⟩, none⟩
theorem givep_w : walk Tryd.prog 101 ⟨[pb_c_give28], syG, [], [], []⟩ [] (.agg (.cons .v (.cons .v (.cons .v (.cons .v (.cons .v (.cons .v (.cons .v (.cons .v (.cons .v (.cons (.o 144 (.cons (.int .i64) (.cons (.int .i64) (.cons .str .nil)))) .nil))))))))))) pb_c_givep pb_c_givep.n 3000 = some givep_tree := by kernel_rfl
theorem givep_h (k b a q w c f : Int) (j : Bool) (l : Value) (s : ByteArray) : Hyp_ pb_c_givep givep_tree (pb_E [k, b, a, q, w, c, f] [j] [l] [s]) := by
 intro hc hty
 simp only [pb_c_givep, Sy.holds, pb_E, denV, denI, denB, denL, I2.den, VOp.den, List.getD_cons_zero, List.getD_cons_succ, Cst.den, syso, syse, syio, sybo, B2.ofInts, B2.denI, B2.denB, if_true, Bool.false_eq_true, if_false, Nat.div_one, Nat.mul_one, Nat.add_zero] at hc
 simp only [pb_c_givep, patsTyp, patTyp, patTypL, pb_E, denV, denL, List.getD_cons_zero, List.getD_cons_succ, and_true, true_and] at hty
 have hL_l : typ (.sl (.cons (.int .i64) (.cons (.int .i64) (.cons .str .nil)))) l := by first | exact hty | exact hty.1 | exact hty.2 | exact hty.1.1 | exact hty.1.2 | exact hty.2.1 | exact hty.2.2 | exact hty.2.2.1 | exact hty.2.2.2
 have hN_l := typ_len (n := 3) hL_l rfl (by omega)
 unfold givep_tree
 simp only [pb_c_givep, Tree.holds, Sy.holds, pb_E, denV, denI, denB, denL, I2.den, VOp.den, List.getD_cons_zero, List.getD_cons_succ, Cst.den, syso, syse, syio, sybo, B2.ofInts, B2.denI, B2.denB, if_true, Bool.false_eq_true, if_false, Nat.div_one, Nat.mul_one, Nat.add_zero]
 refine ⟨?_, fun h0 => ?_⟩
 ·
  first
  | exact hc
  | omega
  | skip
 ·
  first | exact True.intro | rfl | skip
theorem pb_g_givep : pb_c_givep.Good Tryd.prog syG (pb_E [] [] [] []) := good_of_walk (Γ := ⟨[pb_c_give28], syG, [], [], []⟩) (ρ := pb_E [] [] [] []) sym givep_w rfl (fun _ _ _ _ => (ok_cons (Con.Good.env pb_g_give28 _ _ _ _) ok_nil)) givep_h
def nums_tree : Tree :=
 (.ret (.agg (.cons (.int .i64 (.var 1)) (.cons (.int .i64 (.var 2)) (.cons (.int .i64 (.var 3)) (.cons (.int .i64 (.var 4)) (.cons (.int .i64 (.var 5)) .nil)))))))
abbrev pb_c_nums : Con := ⟨43, [(.agg (.cons (.int .i64 (.var 0)) (.cons (.int .i64 (.var 1)) (.cons (.int .i64 (.var 2)) (.cons (.int .i64 (.var 3)) (.cons (.int .i64 (.var 4)) (.cons (.int .i64 (.var 5)) (.cons (.bool (.bvar 0)) (.cons (.str 0) (.cons (.int .i64 (.var 6)) (.cons (.hs .no (.cons (.int .i64) (.cons (.int .i64) (.cons .str .nil))) (.opq 0)) .nil)))))))))))], (.tt true), (.agg (.cons (.int .i64 (.var 1)) (.cons (.int .i64 (.var 2)) (.cons (.int .i64 (.var 3)) (.cons (.int .i64 (.var 4)) (.cons (.int .i64 (.var 5)) .nil)))))), ⟨7, 1, 1, 1⟩, none⟩
theorem nums_w : walk Tryd.prog 101 ⟨[], syG, [], [], []⟩ [] .v pb_c_nums pb_c_nums.n 3000 = some nums_tree := by kernel_rfl
theorem nums_h (k b a q w c f : Int) (j : Bool) (l : Value) (s : ByteArray) : Hyp_ pb_c_nums nums_tree (pb_E [k, b, a, q, w, c, f] [j] [l] [s]) := by
 intro hc hty
 simp only [pb_c_nums, Sy.holds, pb_E, denV, denI, denB, denL, I2.den, VOp.den, List.getD_cons_zero, List.getD_cons_succ, Cst.den, syso, syse, syio, sybo, B2.ofInts, B2.denI, B2.denB, if_true, Bool.false_eq_true, if_false, Nat.div_one, Nat.mul_one, Nat.add_zero] at hc
 simp only [pb_c_nums, patsTyp, patTyp, patTypL, pb_E, denV, denL, List.getD_cons_zero, List.getD_cons_succ, and_true, true_and] at hty
 have hL_l : typ (.sl (.cons (.int .i64) (.cons (.int .i64) (.cons .str .nil)))) l := by first | exact hty | exact hty.1 | exact hty.2 | exact hty.1.1 | exact hty.1.2 | exact hty.2.1 | exact hty.2.2 | exact hty.2.2.1 | exact hty.2.2.2
 have hN_l := typ_len (n := 3) hL_l rfl (by omega)
 unfold nums_tree
 simp only [pb_c_nums, Tree.holds, Sy.holds, pb_E, denV, denI, denB, denL, I2.den, VOp.den, List.getD_cons_zero, List.getD_cons_succ, Cst.den, syso, syse, syio, sybo, B2.ofInts, B2.denI, B2.denB, if_true, Bool.false_eq_true, if_false, Nat.div_one, Nat.mul_one, Nat.add_zero]
 all_goals first | omega | rfl | (simp only [Value.tuple.injEq, Value.agg.injEq, Value.int.injEq, Value.bool.injEq, Array.mk.injEq, List.cons.injEq, true_and, and_true]; omega) | (refine congrArg Value.bool (Bool.eq_iff_iff.2 ?_); simp only [beq_iff_eq, decide_eq_true_eq, true_iff, false_iff, Bool.false_eq_true, Bool.not_eq_true', Bool.and_eq_true, Bool.or_eq_true, decide_eq_false_iff_not]; omega)
theorem pb_g_nums : pb_c_nums.Good Tryd.prog syG (pb_E [] [] [] []) := good_of_walk (Γ := ⟨[], syG, [], [], []⟩) (ρ := pb_E [] [] [] []) sym nums_w rfl (fun _ _ _ _ => ok_nil) nums_h
def sleq_tree : Tree :=
 (.br (.not (.b2 .eq (.ofI (.vop (.len 3) (.cons (.opq 0) .nil))) (.ofI (.vop (.len 3) (.cons (.opq 1) .nil)))))
 (.ret (.bool (.tt false)))
 (.loop ⟨1, 0, 0, 0⟩ (.b2 .and (.b2 .le (.lit (0)) (.lit (0))) (.b2 .le (.lit (0)) (.ofI (.vop (.len 3) (.cons (.opq 0) .nil))))) (.b2 .and (.b2 .le (.lit (0)) (.var 0)) (.b2 .le (.var 0) (.ofI (.vop (.len 3) (.cons (.opq 0) .nil)))))
 (.br (.b2 .lt (.var 0) (.ofI (.vop (.len 3) (.cons (.opq 0) .nil))))
 (.need (.b2 .and (.b2 .le (.lit (0)) (.var 0)) (.b2 .lt (.var 0) (.ofI (.vop (.len 3) (.cons (.opq 0) .nil)))))
 (.need (.b2 .and (.b2 .le (.lit (0)) (.var 0)) (.b2 .lt (.var 0) (.ofI (.vop (.len 3) (.cons (.opq 1) .nil)))))
 (.br (.not (.b2 .and (.b2 .eq (.ofI (.vop (.sel 3 0) (.cons (.opq 0) (.cons (.int .i64 (.var 0)) .nil)))) (.ofI (.vop (.sel 3 0) (.cons (.opq 1) (.cons (.int .i64 (.var 0)) .nil))))) (.b2 .and (.b2 .eq (.ofI (.vop (.sel 3 1) (.cons (.opq 0) (.cons (.int .i64 (.var 0)) .nil)))) (.ofI (.vop (.sel 3 1) (.cons (.opq 1) (.cons (.int .i64 (.var 0)) .nil))))) (.veq (.vop (.ssel 3 2) (.cons (.opq 0) (.cons (.int .i64 (.var 0)) .nil))) (.vop (.ssel 3 2) (.cons (.opq 1) (.cons (.int .i64 (.var 0)) .nil)))))))
 (.ret (.bool (.tt false)))
 (.back (.b2 .and (.b2 .le (.lit (0)) (.wrap .i64 (.i2 .add (.var 0) (.lit (1))))) (.b2 .le (.wrap .i64 (.i2 .add (.var 0) (.lit (1)))) (.ofI (.vop (.len 3) (.cons (.opq 0) .nil))))) (.i2 .sub (.ofI (.vop (.len 3) (.cons (.opq 0) .nil))) (.wrap .i64 (.i2 .add (.var 0) (.lit (1))))) (.i2 .sub (.ofI (.vop (.len 3) (.cons (.opq 0) .nil))) (.var 0))))))
 (.ret (.bool (.tt true))))))
abbrev pb_c_sleq : Con := ⟨67, [(.hs .no (.cons (.int .i64) (.cons (.int .i64) (.cons .str .nil))) (.opq 0)), (.hs .no (.cons (.int .i64) (.cons (.int .i64) (.cons .str .nil))) (.opq 1))], (.bapp 12 (.cons (.opq 0) (.cons (.opq 1) .nil))), (.bool (.tt true)), ⟨0, 0, 2, 0⟩, none⟩
theorem sleq_w : walk Tryd.prog 101 ⟨[], syG, [], [], []⟩ [⟨0, ⟨1, 0, 0, 0⟩, [(13, (.int .i64 (.var 0))), (4, (.bool (.tt false)))], none, (.b2 .and (.b2 .le (.lit (0)) (.var 0)) (.b2 .le (.var 0) (.ofI (.vop (.len 3) (.cons (.opq 0) .nil))))), (.i2 .sub (.ofI (.vop (.len 3) (.cons (.opq 0) .nil))) (.var 0)), 0, []⟩] .v pb_c_sleq pb_c_sleq.n 3000 = some sleq_tree := by kernel_rfl
theorem sleq_h (l l2 : Value) : Hyp_ pb_c_sleq sleq_tree (pb_E [] [] [l, l2] []) := by
 intro hc hty
 simp only [pb_c_sleq, Sy.holds, pb_E, denV, denI, denB, denL, I2.den, VOp.den, List.getD_cons_zero, List.getD_cons_succ, Cst.den, syso, syse, syio, sybo, pb_b_eqv, B2.ofInts, B2.denI, B2.denB, if_true, Bool.false_eq_true, if_false, Nat.div_one, Nat.mul_one, Nat.add_zero] at hc
 simp only [pb_c_sleq, patsTyp, patTyp, patTypL, pb_E, denV, denL, List.getD_cons_zero, List.getD_cons_succ, and_true, true_and] at hty
 have hL_l : typ (.sl (.cons (.int .i64) (.cons (.int .i64) (.cons .str .nil)))) l := by first | exact hty | exact hty.1 | exact hty.2 | exact hty.1.1 | exact hty.1.2 | exact hty.2.1 | exact hty.2.2 | exact hty.2.2.1 | exact hty.2.2.2
 have hN_l := typ_len (n := 3) hL_l rfl (by omega)
 have hL_l2 : typ (.sl (.cons (.int .i64) (.cons (.int .i64) (.cons .str .nil)))) l2 := by first | exact hty | exact hty.1 | exact hty.2 | exact hty.1.1 | exact hty.1.2 | exact hty.2.1 | exact hty.2.2 | exact hty.2.2.1 | exact hty.2.2.2
 have hN_l2 := typ_len (n := 3) hL_l2 rfl (by omega)
 unfold sleq_tree
 simp only [pb_c_sleq, Tree.holds, Sy.holds, AllN, Env.more, pb_E, List.cons_append, List.nil_append, List.append_nil, denV, denI, denB, denL, I2.den, VOp.den, List.getD_cons_zero, List.getD_cons_succ, Cst.den, syso, syse, syio, sybo, List.map_nil, List.map_cons, B2.ofInts, B2.denI, B2.denB, if_true, Bool.false_eq_true, if_false, Nat.div_one, Nat.mul_one, Nat.add_zero]
 rw [eqV_iff] at hc
 subst hc
 refine ⟨fun h0 => ?_, fun h0 => ?_⟩
 refine ?a0; rotate_left
 refine ⟨?_, ?_⟩
 ·
  omega
 intro i0a hi0
 refine ⟨fun h1 => ?_, fun h1 => ?_⟩
 refine ⟨?_, fun h2 => ?_⟩
 ·
  omega
 refine ⟨?_, fun h3 => ?_⟩
 ·
  omega
 refine ⟨fun h4 => ?_, fun h4 => ?_⟩
 refine ?a1; rotate_left
 have wf0 := wr_i64 (i0a + 1)
 refine ⟨?_, ?_⟩
 ·
  have w1 := wr_i64 (i0a + 1)
  omega
 ·
  have w1 := wr_i64 (i0a + 1)
  omega
 refine ?a2; rotate_left
 case a0 | a1 | a2 =>
  first
  | exact True.intro
  | rfl
  | (exfalso; omega)
  | (exfalso; simp only [not_true_eq_false, true_and, and_true, and_self, ba_beq, eq_self_iff_true] at *; done)
theorem pb_g_sleq : pb_c_sleq.Good Tryd.prog syG (pb_E [] [] [] []) := good_of_walk (Γ := ⟨[], syG, [], [], []⟩) (ρ := pb_E [] [] [] []) sym sleq_w rfl (fun _ _ _ _ => ok_nil) sleq_h
def same_tree : Tree :=
 (.br (.b2 .eq (.var 0) (.var 7))
 (.br (.b2 .and (.b2 .eq (.var 1) (.var 8)) (.b2 .and (.b2 .eq (.var 2) (.var 9)) (.b2 .and (.b2 .eq (.var 3) (.var 10)) (.b2 .and (.b2 .eq (.var 4) (.var 11)) (.b2 .eq (.var 5) (.var 12))))))
 (.br (.b2 .beq (.bvar 0) (.bvar 1))
 (.br (.veq (.str 0) (.str 1))
 (.br (.b2 .eq (.var 6) (.var 13))
 (.need (.bapp 12 (.cons (.opq 0) (.cons (.opq 1) .nil)))
 (.ret (.bool (.tt true))))
 (.ret (.bool (.tt false))))
 (.ret (.bool (.tt false))))
 (.ret (.bool (.tt false))))
 (.ret (.bool (.tt false))))
 (.ret (.bool (.tt false))))
abbrev pb_c_same : Con := ⟨23, [(.agg (.cons (.int .i64 (.var 0)) (.cons (.int .i64 (.var 1)) (.cons (.int .i64 (.var 2)) (.cons (.int .i64 (.var 3)) (.cons (.int .i64 (.var 4)) (.cons (.int .i64 (.var 5)) (.cons (.bool (.bvar 0)) (.cons (.str 0) (.cons (.int .i64 (.var 6)) (.cons (.hs .no (.cons (.int .i64) (.cons (.int .i64) (.cons .str .nil))) (.opq 0)) .nil))))))))))), (.agg (.cons (.int .i64 (.var 7)) (.cons (.int .i64 (.var 8)) (.cons (.int .i64 (.var 9)) (.cons (.int .i64 (.var 10)) (.cons (.int .i64 (.var 11)) (.cons (.int .i64 (.var 12)) (.cons (.bool (.bvar 1)) (.cons (.str 1) (.cons (.int .i64 (.var 13)) (.cons (.hs .no (.cons (.int .i64) (.cons (.int .i64) (.cons .str .nil))) (.opq 1)) .nil)))))))))))], (.b2 .and (.b2 .eq (.var 0) (.var 7)) (.b2 .and (.b2 .eq (.var 1) (.var 8)) (.b2 .and (.b2 .eq (.var 2) (.var 9)) (.b2 .and (.b2 .eq (.var 3) (.var 10)) (.b2 .and (.b2 .eq (.var 4) (.var 11)) (.b2 .and (.b2 .eq (.var 5) (.var 12)) (.b2 .and (.b2 .eq (.var 6) (.var 13)) (.b2 .and (.b2 .beq (.bvar 0) (.bvar 1)) (.b2 .and (.veq (.str 0) (.str 1)) (.bapp 12 (.cons (.opq 0) (.cons (.opq 1) .nil)))))))))))), (.bool (.tt true)), ⟨14, 2, 2, 2⟩, none⟩
theorem same_w : walk Tryd.prog 101 ⟨[pb_c_nums, pb_c_sleq], syG, [], [], []⟩ [] .v pb_c_same pb_c_same.n 3000 = some same_tree := by kernel_rfl
theorem same_h (k b a q w c f k2 b2 a2 q2 w2 c2 f2 : Int) (j j2 : Bool) (l l2 : Value) (s s2 : ByteArray) : Hyp_ pb_c_same same_tree (pb_E [k, b, a, q, w, c, f, k2, b2, a2, q2, w2, c2, f2] [j, j2] [l, l2] [s, s2]) := by
 intro hc hty
 simp only [pb_c_same, Sy.holds, pb_E, denV, denI, denB, denL, I2.den, VOp.den, List.getD_cons_zero, List.getD_cons_succ, Cst.den, syso, syse, syio, sybo, pb_b_eqv, B2.ofInts, B2.denI, B2.denB, if_true, Bool.false_eq_true, if_false, Nat.div_one, Nat.mul_one, Nat.add_zero] at hc
 simp only [pb_c_same, patsTyp, patTyp, patTypL, pb_E, denV, denL, List.getD_cons_zero, List.getD_cons_succ, and_true, true_and] at hty
 have hL_l : typ (.sl (.cons (.int .i64) (.cons (.int .i64) (.cons .str .nil)))) l := by first | exact hty | exact hty.1 | exact hty.2 | exact hty.1.1 | exact hty.1.2 | exact hty.2.1 | exact hty.2.2 | exact hty.2.2.1 | exact hty.2.2.2
 have hN_l := typ_len (n := 3) hL_l rfl (by omega)
 have hL_l2 : typ (.sl (.cons (.int .i64) (.cons (.int .i64) (.cons .str .nil)))) l2 := by first | exact hty | exact hty.1 | exact hty.2 | exact hty.1.1 | exact hty.1.2 | exact hty.2.1 | exact hty.2.2 | exact hty.2.2.1 | exact hty.2.2.2
 have hN_l2 := typ_len (n := 3) hL_l2 rfl (by omega)
 unfold same_tree
 simp only [pb_c_same, Tree.holds, Sy.holds, pb_E, denV, denI, denB, denL, I2.den, VOp.den, List.getD_cons_zero, List.getD_cons_succ, Cst.den, syso, syse, syio, sybo, pb_b_eqv, B2.ofInts, B2.denI, B2.denB, if_true, Bool.false_eq_true, if_false, Nat.div_one, Nat.mul_one, Nat.add_zero]
 obtain ⟨e1, e2, e3, e4, e5, e6, e7, e8, e9, e10⟩ := hc
 rw [ba_beq] at e9
 rw [eqV_iff] at e10
 have e8b : j = j2 := by cases j <;> cases j2 <;> first | rfl | (simp at e8)
 subst e1 e2 e3 e4 e5 e6 e7 e8b e9 e10
 refine ⟨fun h0 => ?_, fun h0 => ?_⟩
 refine ⟨fun h1 => ?_, fun h1 => ?_⟩
 refine ⟨fun h2 => ?_, fun h2 => ?_⟩
 refine ⟨fun h3 => ?_, fun h3 => ?_⟩
 refine ⟨fun h4 => ?_, fun h4 => ?_⟩
 refine ⟨?_, fun h5 => ?_⟩
 ·
  first
  | exact True.intro
  | exact eqV_iff.2 rfl
  | omega
 refine ?a0; rotate_left
 refine ?a1; rotate_left
 refine ?a2; rotate_left
 refine ?a3; rotate_left
 refine ?a4; rotate_left
 refine ?a5; rotate_left
 case a0 | a1 | a2 | a3 | a4 | a5 =>
  first
  | exact True.intro
  | rfl
  | (exfalso; omega)
  | (exfalso; simp only [not_true_eq_false, true_and, and_true, and_self, ba_beq, eq_self_iff_true, beq_self_eq_true] at *; done)
theorem pb_g_same : pb_c_same.Good Tryd.prog syG (pb_E [] [] [] []) := good_of_walk (Γ := ⟨[pb_c_nums, pb_c_sleq], syG, [], [], []⟩) (ρ := pb_E [] [] [] []) sym same_w rfl (fun _ _ _ _ => (ok_cons (Con.Good.env pb_g_nums _ _ _ _) (ok_cons (Con.Good.env pb_g_sleq _ _ _ _) ok_nil))) same_h
end Go.Proofs.YtikfgnmljpjnbaaDoor
