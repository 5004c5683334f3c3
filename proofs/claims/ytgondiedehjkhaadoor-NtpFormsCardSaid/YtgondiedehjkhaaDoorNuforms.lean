/-
 Layer 41 by the second engine: NtpHolds.
-/
import Derived.Test.YtgondiedehjkhaaDoorSycforms
import Derived.Test.YtgondiedehjkhaaDoorNtforms
import Derived.Test.YtgondiedehjkhaaDoorE00forms
namespace Go.Proofs.YtgondiedehjkhaaDoor
open Go.RowKit Go.Extern.Stop Go.Stop Go.Extern Go.Proofs.YtgondiedehjkhaaDoor.Sy
set_option linter.unusedVariables false
set_option linter.unusedSimpArgs false
abbrev xuformsk2_ : Tm := (wr_ (sb_ v1_ (wr_ (ad_ (wr_ (ml_ (wr_ (sb_ (wr_ (.i2 (.shr .u64) (.iapp 26 (.cons z0_ .nil)) (.lit 32))) (.lit 2208988800))) (.lit 1000000000))) (.iapp 38 (.cons (.int .i64 (wr_ (ml_ (wr_ (.wrap .u32 (.iapp 26 (.cons z0_ .nil)))) (.lit 1000000000)))) (.cons (.int .i64 (.lit 4294967296)) .nil)))))))
abbrev xuformsk0_ : Tm := (.iapp 37 (.cons (.int .i64 xuformsk2_) (.cons (.int .i64 (.lit 4294967296000000000)) .nil)))
abbrev xuformsk1_ : Tm := (.agg (.cons (.int .u8 (.lit 0)) (.cons (.int .u8 (.lit 0)) (.cons (.int .u8 (.lit 0)) (.cons (.int .u8 (.lit 0)) (.cons (.int .i8 (.lit 0)) (.cons (.int .i8 (.lit 0)) (.cons (.int .u32 (.lit 0)) (.cons (.int .u32 (.lit 0)) (.cons (.int .u8 (.lit 0)) (.cons (.int .u8 (.lit 0)) (.cons (.int .u8 (.lit 0)) (.cons (.int .u8 (.lit 0)) (.cons (.int .u64 (.lit 0)) (.cons (.int .u64 (.lit 0)) (.cons (.int .u64 (.lit 0)) (.cons (.int .u64 (.lit 0)) .nil)))))))))))))))))
abbrev xuformsk3_ : Tm := (.iapp 28 (.cons (.int .u64 (.lit 0)) (.cons (.int .i64 (.lit 3)) .nil)))
abbrev xuformsk4_ : Tm := (.iapp 28 (.cons (.int .u64 (.lit 0)) (.cons (.int .i64 (.lit 2)) .nil)))
abbrev xuformsk5_ : Tm := (.iapp 28 (.cons (.int .u64 (.lit 0)) (.cons (.int .i64 (.lit 1)) .nil)))
abbrev xuformsk6_ : Tm := (.iapp 28 (.cons (.int .u64 (.lit 0)) (.cons (.int .i64 (.lit 0)) .nil)))
abbrev xuformsk7_ : Tm := (wr_ (ad_ (wr_ (sb_ v1_ xuformsk0_)) (.lit 4294967296000000000)))
theorem good_split {P : Program} {G : Glob} {ρ : Env} {c : Con} (C : Tm) (h1 : Con.Good P G ρ { c with cnd := .b2 .and c.cnd C }) (h2 : Con.Good P G ρ { c with cnd := .b2 .and c.cnd (.not C) }) : c.Good P G ρ := by
 intro iv bv vv sv β ok w xs n1 n2 n3 n4 hc ho hG hr he
 by_cases h : holds { ρ with iv := iv, bv := bv, vv := vv, sv := sv } C
 · exact h1 iv bv vv sv β ok w xs n1 n2 n3 n4 ⟨hc, h⟩ ho hG hr he
 · exact h2 iv bv vv sv β ok w xs n1 n2 n3 n4 ⟨hc, h⟩ ho hG hr he
noncomputable def nuI : Nat → List Value → Int
 | i, l => ntI i l
noncomputable def nuB : Nat → List Value → Bool
 | i, l => ntB i l
noncomputable def nuV : Nat → List Value → Value
 | i, l => ntV i l
noncomputable abbrev nuE (iv : List Int) (bv : List Bool) (vv : List Value) (sv : List ByteArray) : Env := { iv := iv, bv := bv, vv := vv, sv := sv, fi := nuI, fb := nuB, fv := nuV, et := 142 }
set_option maxHeartbeats 8000000 in
theorem nuup : Agree 39 3 0 (ntE [] [] [] []) (nuE [] [] [] []) := ⟨rfl, (by
   intro f hf
   funext l
   show nuI f l = ntI f l
   unfold nuI
   split <;> first | rfl | omega), (by
   intro f hf
   funext l
   show nuB f l = ntB f l
   unfold nuB
   split <;> first | rfl | omega), (by
   intro f hf
   funext l
   show nuV f l = ntV f l
   unfold nuV
   split <;> first | rfl | omega)⟩
theorem nui_stv (k1 : IntKind) (t : Int) : nuI 26 [.int k1 t] = stV t := rfl
theorem nui_fb (k1 : IntKind) (l : Int) (k2 : IntKind) (v : Int) (k3 : IntKind) (m : Int) : nuI 29 [.int k1 l, .int k2 v, .int k3 m] = fbI l v m := rfl
theorem nui_sh (k1 : IntKind) (n : Int) : nuI 30 [.int k1 n] = shI n := rfl
theorem nui_dw (k1 : IntKind) (a : Int) (k2 : IntKind) (b : Int) : nuI 37 [.int k1 a, .int k2 b] = a % b := rfl
theorem nui_cl (k1 : IntKind) (a : Int) (k2 : IntKind) (b : Int) : nuI 38 [.int k1 a, .int k2 b] = -((-a) / b) := rfl
def nears_tree : Tree :=
 (.need (an_ (le_ lm_ v1_) (le_ v1_ lM_))
 (.br (.not (an_ (lt_ (.lit (-4611686018427387904)) v1_) (lt_ v1_ (.lit 4611686018427387904))))
 (.ret (.tup (.cons (.int .i64 (.lit 0)) (.cons (.iface 142 (.int .i64 (.lit 1))) .nil))))
 (.need (an_ (le_ (.lit 0) (wr_ (ml_ (wr_ (.wrap .u32 (.iapp 26 (.cons z0_ .nil)))) (.lit 1000000000)))) (le_ (wr_ (ml_ (wr_ (.wrap .u32 (.iapp 26 (.cons z0_ .nil)))) (.lit 1000000000))) lM_))
 (.need (an_ (le_ lm_ xuformsk2_) (le_ xuformsk2_ lM_))
 (.br (lt_ (.lit 2147483648000000000) xuformsk0_)
 (.need (an_ (le_ lm_ xuformsk7_) (le_ xuformsk7_ lM_))
 (.br (.not (an_ (lt_ (.lit (-4611686018427387904)) xuformsk7_) (lt_ xuformsk7_ (.lit 4611686018427387904))))
 (.ret (.tup (.cons (.int .i64 (.lit 0)) (.cons (.iface 142 (.int .i64 (.lit 2))) .nil))))
 (.ret (.tup (.cons (.int .i64 xuformsk7_) (.cons (.cst .nilI) .nil))))))
 (.need (an_ (le_ lm_ (wr_ (sb_ v1_ xuformsk0_))) (le_ (wr_ (sb_ v1_ xuformsk0_)) lM_))
 (.br (.not (an_ (lt_ (.lit (-4611686018427387904)) (wr_ (sb_ v1_ xuformsk0_))) (lt_ (wr_ (sb_ v1_ xuformsk0_)) (.lit 4611686018427387904))))
 (.ret (.tup (.cons (.int .i64 (.lit 0)) (.cons (.iface 142 (.int .i64 (.lit 2))) .nil))))
 (.ret (.tup (.cons (.int .i64 (wr_ (sb_ v1_ xuformsk0_))) (.cons (.cst .nilI) .nil)))))))))))
abbrev nuc_nears : Con := ⟨54, [(.int .u64 (.iapp 26 (.cons z0_ .nil))), z1_], (an_ (an_ (lt_ (.lit (-4611686018427387904)) v0_) (lt_ v0_ (.lit 4611686018427387904))) (an_ (an_ (lt_ (.lit (-4611686018427387904)) v1_) (lt_ v1_ (.lit 4611686018427387904))) (an_ (lt_ (.lit (-2000000000000000000)) (sb_ v1_ v0_)) (lt_ (sb_ v1_ v0_) (.lit 2147483648000000000))))), (.tup (.cons z0_ (.cons (.err (.lit 0)) .nil))), ⟨2, 0, 0, 0⟩, none⟩
theorem nears_w : walk Tryd.prog 142 ⟨[ntc_istime, ntc_ceilr, ntc_divp], syG, [], [], []⟩ [] .v nuc_nears nuc_nears.n 3000 = some nears_tree := by kernel_rfl
theorem nears_h (c t : Int) : Hyp_ nuc_nears nears_tree (nuE [c, t] [] [] []) := by
 intro hc hty
 simp only [nuc_nears, Sy.holds, nuE, denV, denI, denB, denL, I2.den, VOp.den, List.getD_cons_zero, List.getD_cons_succ, Cst.den, syso, syse, syio, sybo, B2.ofInts, B2.denI, B2.denB, if_true, Bool.false_eq_true, if_false, Nat.div_one, Nat.mul_one, Nat.add_zero] at hc
 simp only [nuc_nears, patsTyp, patTyp, patTypL, nuE, denV, denL, List.getD_cons_zero, List.getD_cons_succ, and_true, true_and] at hty
 unfold nears_tree
 simp only [nuc_nears, Tree.holds, Sy.holds, nuE, denV, denI, denB, denL, I2.den, VOp.den, List.getD_cons_zero, List.getD_cons_succ, Cst.den, syso, syse, syio, sybo, nui_stv, nui_dw, nui_cl, B2.ofInts, B2.denI, B2.denB, if_true, Bool.false_eq_true, if_false, Nat.div_one, Nat.mul_one, Nat.add_zero]
 have hst := st_rng c
 have hnr := nr_st2 hc.2.2.1 hc.2.2.2
 have w4 : IntKind.wrap .u32 (stV c) = stV c % 4294967296 := IntKind.wrap_u32 _
 have w5 : IntKind.wrap .i64 (stV c % 4294967296) = stV c % 4294967296 := by have := wr_i64 (stV c % 4294967296); omega
 have w6 : IntKind.wrap .i64 (stV c % 4294967296 * 1000000000) = stV c % 4294967296 * 1000000000 := by have := wr_i64 (stV c % 4294967296 * 1000000000); omega
 have w1 : IntKind.wrap .i64 (stV c / 4294967296) = stV c / 4294967296 := by have := wr_i64 (stV c / 4294967296); omega
 have w2 : IntKind.wrap .i64 (stV c / 4294967296 - 2208988800) = stV c / 4294967296 - 2208988800 := by have := wr_i64 (stV c / 4294967296 - 2208988800); omega
 have w3 : IntKind.wrap .i64 ((stV c / 4294967296 - 2208988800) * 1000000000) = (stV c / 4294967296 - 2208988800) * 1000000000 := by have := wr_i64 ((stV c / 4294967296 - 2208988800) * 1000000000); omega
 simp only [shr32, w4, w5, w6, w1, w2, w3]
 obtain ⟨X, hX⟩ : ∃ x, -((-(stV c % 4294967296 * 1000000000)) / 4294967296) = x := ⟨_, rfl⟩
 simp only [hX]
 have hXb : 0 ≤ X ∧ X ≤ 1000000000 := by omega
 have w7 : IntKind.wrap .i64 ((stV c / 4294967296 - 2208988800) * 1000000000 + X) = (stV c / 4294967296 - 2208988800) * 1000000000 + X := by have := wr_i64 ((stV c / 4294967296 - 2208988800) * 1000000000 + X); omega
 simp only [w7]
 obtain ⟨T, hT⟩ : ∃ x, (stV c / 4294967296 - 2208988800) * 1000000000 + X = x := ⟨_, rfl⟩
 simp only [hT]
 have hTb : -2208988800000000000 ≤ T ∧ T ≤ 2085978497000000000 := by omega
 have w8 : IntKind.wrap .i64 (t - T) = t - T := by have := wr_i64 (t - T); omega
 simp only [w8]
 obtain ⟨B, hB⟩ : ∃ x, (t - T) % 4294967296000000000 = x := ⟨_, rfl⟩
 simp only [hB]
 have hBb : 0 ≤ B ∧ B < 4294967296000000000 := by omega
 have w9 : IntKind.wrap .i64 (t - B) = t - B := by have := wr_i64 (t - B); omega
 simp only [w9]
 have w10 := wr_i64 (t - B + 4294967296000000000)
 have hn0 : nrN (stV c) t = if 2147483648000000000 < B then t - B + 4294967296000000000 else t - B := by (unfold nrN; simp only [hX, hT, hB])
 have hn : (2147483648000000000 < B ∧ nrN (stV c) t = t - B + 4294967296000000000) ∨ (B ≤ 2147483648000000000 ∧ nrN (stV c) t = t - B) := by (rw [hn0]; split <;> omega)
 clear hn0 hB hT hX w1 w2 w3 w4 w5 w6 w7 w8 w9
 refine ⟨?_, fun h0 => ?_⟩
 ·
  omega
 refine ⟨fun h1 => ?_, fun h1 => ?_⟩
 refine ?a0; rotate_left
 refine ⟨?_, fun h2 => ?_⟩
 ·
  omega
 refine ⟨?_, fun h3 => ?_⟩
 ·
  omega
 refine ⟨fun h4 => ?_, fun h4 => ?_⟩
 refine ⟨?_, fun h5 => ?_⟩
 ·
  omega
 refine ⟨fun h6 => ?_, fun h6 => ?_⟩
 refine ?a1; rotate_left
 refine ?a2; rotate_left
 refine ⟨?_, fun h7 => ?_⟩
 ·
  omega
 refine ⟨fun h8 => ?_, fun h8 => ?_⟩
 refine ?a3; rotate_left
 refine ?a4; rotate_left
 case a0 | a1 | a2 | a3 | a4 =>
  first
  | (exfalso; omega)
  | (rw [show IntKind.wrap .i64 (t - B + 4294967296000000000) = c by omega]; first | done | rfl)
  | (rw [show t - B = c by omega]; first | done | rfl)
  | skip
theorem nug_nears : nuc_nears.Good Tryd.prog syG (nuE [] [] [] []) := good_of_walk (Γ := ⟨[ntc_istime, ntc_ceilr, ntc_divp], syG, [], [], []⟩) (ρ := nuE [] [] [] []) sym nears_w rfl (fun _ _ _ _ => (ok_cons (Con.Good.env (Con.Good.up ntg_istime nuup rfl) _ _ _ _) (ok_cons (Con.Good.env (Con.Good.up ntg_ceilr nuup rfl) _ _ _ _) (ok_cons (Con.Good.env (Con.Good.up ntg_divp nuup rfl) _ _ _ _) ok_nil)))) nears_h
def dec47_tree : Tree :=
 (.ret (.tup (.cons xuformsk1_ (.cons (.iface 142 (.int .i64 (.lit 3))) .nil))))
abbrev nuc_dec47 : Con := ⟨50, [(.hs .no (.cons (.int .u8) .nil) (.tup (.cons (.int .u8 (.iapp 29 (.cons (.int .u8 (.lit 0)) (.cons (.int .u8 (.lit 4)) (.cons (.int .u8 (.lit 3)) .nil))))) (.cons (.int .u8 (.lit 0)) (.cons (.int .u8 (.lit 0)) (.cons (.int .u8 (.lit 0)) (.cons (.int .u8 xuformsk3_) (.cons (.int .u8 xuformsk4_) (.cons (.int .u8 xuformsk5_) (.cons (.int .u8 xuformsk6_) (.cons (.int .u8 xuformsk3_) (.cons (.int .u8 xuformsk4_) (.cons (.int .u8 xuformsk5_) (.cons (.int .u8 xuformsk6_) (.cons (.int .u8 (.lit 0)) (.cons (.int .u8 (.lit 0)) (.cons (.int .u8 (.lit 0)) (.cons (.int .u8 (.lit 0)) (.cons (.int .u8 (.iapp 28 (.cons (.int .u64 (.lit 0)) (.cons (.int .i64 (.lit 7)) .nil)))) (.cons (.int .u8 (.iapp 28 (.cons (.int .u64 (.lit 0)) (.cons (.int .i64 (.lit 6)) .nil)))) (.cons (.int .u8 (.iapp 28 (.cons (.int .u64 (.lit 0)) (.cons (.int .i64 (.lit 5)) .nil)))) (.cons (.int .u8 (.iapp 28 (.cons (.int .u64 (.lit 0)) (.cons (.int .i64 (.lit 4)) .nil)))) (.cons (.int .u8 xuformsk3_) (.cons (.int .u8 xuformsk4_) (.cons (.int .u8 xuformsk5_) (.cons (.int .u8 xuformsk6_) (.cons (.int .u8 (.iapp 28 (.cons (.int .u64 (.lit 0)) (.cons (.int .i64 (.lit 7)) .nil)))) (.cons (.int .u8 (.iapp 28 (.cons (.int .u64 (.lit 0)) (.cons (.int .i64 (.lit 6)) .nil)))) (.cons (.int .u8 (.iapp 28 (.cons (.int .u64 (.lit 0)) (.cons (.int .i64 (.lit 5)) .nil)))) (.cons (.int .u8 (.iapp 28 (.cons (.int .u64 (.lit 0)) (.cons (.int .i64 (.lit 4)) .nil)))) (.cons (.int .u8 xuformsk3_) (.cons (.int .u8 xuformsk4_) (.cons (.int .u8 xuformsk5_) (.cons (.int .u8 xuformsk6_) (.cons (.int .u8 (.iapp 28 (.cons (.int .u64 (.lit 0)) (.cons (.int .i64 (.lit 7)) .nil)))) (.cons (.int .u8 (.iapp 28 (.cons (.int .u64 (.lit 0)) (.cons (.int .i64 (.lit 6)) .nil)))) (.cons (.int .u8 (.iapp 28 (.cons (.int .u64 (.lit 0)) (.cons (.int .i64 (.lit 5)) .nil)))) (.cons (.int .u8 (.iapp 28 (.cons (.int .u64 (.lit 0)) (.cons (.int .i64 (.lit 4)) .nil)))) (.cons (.int .u8 xuformsk3_) (.cons (.int .u8 xuformsk4_) (.cons (.int .u8 xuformsk5_) (.cons (.int .u8 xuformsk6_) (.cons (.int .u8 (.iapp 28 (.cons (.int .u64 v0_) (.cons (.int .i64 (.lit 7)) .nil)))) (.cons (.int .u8 (.iapp 28 (.cons (.int .u64 v0_) (.cons (.int .i64 (.lit 6)) .nil)))) (.cons (.int .u8 (.iapp 28 (.cons (.int .u64 v0_) (.cons (.int .i64 (.lit 5)) .nil)))) (.cons (.int .u8 (.iapp 28 (.cons (.int .u64 v0_) (.cons (.int .i64 (.lit 4)) .nil)))) (.cons (.int .u8 (.iapp 28 (.cons (.int .u64 v0_) (.cons (.int .i64 (.lit 3)) .nil)))) (.cons (.int .u8 (.iapp 28 (.cons (.int .u64 v0_) (.cons (.int .i64 (.lit 2)) .nil)))) (.cons (.int .u8 (.iapp 28 (.cons (.int .u64 v0_) (.cons (.int .i64 (.lit 1)) .nil)))) .nil)))))))))))))))))))))))))))))))))))))))))))))))))], (.tt true), (.tup (.cons xuformsk1_ (.cons (.err (.lit 3)) .nil))), ⟨1, 0, 0, 0⟩, none⟩
theorem dec47_w : walk Tryd.prog 142 ⟨[], syG, [], [], []⟩ [] .v nuc_dec47 nuc_dec47.n 3000 = some dec47_tree := by kernel_rfl
theorem dec47_h (s : Int) : Hyp_ nuc_dec47 dec47_tree (nuE [s] [] [] []) := by
 intro hc hty
 simp only [nuc_dec47, Sy.holds, nuE, denV, denI, denB, denL, I2.den, VOp.den, List.getD_cons_zero, List.getD_cons_succ, Cst.den, syso, syse, syio, sybo, B2.ofInts, B2.denI, B2.denB, if_true, Bool.false_eq_true, if_false, Nat.div_one, Nat.mul_one, Nat.add_zero] at hc
 simp only [nuc_dec47, patsTyp, patTyp, patTypL, nuE, denV, denL, List.getD_cons_zero, List.getD_cons_succ, and_true, true_and] at hty
 unfold dec47_tree
 simp only [nuc_dec47, Tree.holds, Sy.holds, nuE, denV, denI, denB, denL, I2.den, VOp.den, List.getD_cons_zero, List.getD_cons_succ, Cst.den, syso, syse, syio, sybo, B2.ofInts, B2.denI, B2.denB, if_true, Bool.false_eq_true, if_false, Nat.div_one, Nat.mul_one, Nat.add_zero]
 first
 | exact True.intro
 | rfl
 | skip
theorem nug_dec47 : nuc_dec47.Good Tryd.prog syG (nuE [] [] [] []) := good_of_walk (Γ := ⟨[], syG, [], [], []⟩) (ρ := nuE [] [] [] []) sym dec47_w rfl (fun _ _ _ _ => ok_nil) dec47_h
def sure41_tree : Tree :=
 (.need (an_ (le_ (.lit 0) (.iapp 26 (.cons (.int .i64 (.lit 7)) .nil))) (le_ (.iapp 26 (.cons (.int .i64 (.lit 7)) .nil)) (.lit 18446744073709551615)))
 (.br (eq_ (.iapp 26 (.cons (.int .i64 (.lit 0)) .nil)) (.lit 9487534653230284800))
 (.br (eq_ (.iapp 29 (.cons (.int .u8 (.lit 0)) (.cons (.int .u8 (.lit 4)) (.cons (.int .u8 (.lit 3)) .nil)))) (.lit 35))
 (.ret (.bool (eq_ (.iapp 30 (.cons (.int .u32 (.lit 1)) .nil)) (.lit 15259))))
 (.ret (.bool (.tt false))))
 (.ret (.bool (.tt false)))))
abbrev nuc_sure41 : Con := ⟨47, [], (.tt true), (.bool (.tt true)), ⟨0, 0, 0, 0⟩, none⟩
theorem sure41_w : walk Tryd.prog 142 ⟨[ntc_stamp, nuc_nears, ntc_ask, ntc_encode, nuc_dec47, ntc_num, ntc_short], syG, [], [], []⟩ [] .v nuc_sure41 nuc_sure41.n 3000 = some sure41_tree := by kernel_rfl
theorem sure41_h : Hyp_ nuc_sure41 sure41_tree (nuE [] [] [] []) := by
 intro hc hty
 simp only [nuc_sure41, Sy.holds, nuE, denV, denI, denB, denL, I2.den, VOp.den, List.getD_cons_zero, List.getD_cons_succ, Cst.den, syso, syse, syio, sybo, B2.ofInts, B2.denI, B2.denB, if_true, Bool.false_eq_true, if_false, Nat.div_one, Nat.mul_one, Nat.add_zero] at hc
 simp only [nuc_sure41, patsTyp, patTyp, patTypL, nuE, denV, denL, List.getD_cons_zero, List.getD_cons_succ, and_true, true_and] at hty
 unfold sure41_tree
 simp only [nuc_sure41, Tree.holds, Sy.holds, nuE, denV, denI, denB, denL, I2.den, VOp.den, List.getD_cons_zero, List.getD_cons_succ, Cst.den, syso, syse, syio, sybo, nui_stv, nui_fb, nui_sh, B2.ofInts, B2.denI, B2.denB, if_true, Bool.false_eq_true, if_false, Nat.div_one, Nat.mul_one, Nat.add_zero]
 have q1 : stV 0 = 9487534653230284800 := by decide
 have q2 : fbI 0 4 3 = 35 := by decide
 have q3 : shI 1 = 15259 := by decide
 simp only [q1, q2, q3]
 have q4 := st_rng 7
 refine ⟨?_, fun h0 => ?_⟩
 ·
  first
  | exact True.intro
  | omega
  | decide
  | skip
 refine ⟨fun h1 => ?_, fun h1 => ?_⟩
 refine ⟨fun h2 => ?_, fun h2 => ?_⟩
 refine ?a0; rotate_left
 refine ?a1; rotate_left
 refine ?a2; rotate_left
 case a0 | a1 | a2 =>
  first
  | exact True.intro
  | rfl
  | (exfalso; omega)
  | exact absurd True.intro (by assumption)
  | skip
theorem nug_sure41 : nuc_sure41.Good Tryd.prog syG (nuE [] [] [] []) := good_of_walk (Γ := ⟨[ntc_stamp, nuc_nears, ntc_ask, ntc_encode, nuc_dec47, ntc_num, ntc_short], syG, [], [], []⟩) (ρ := nuE [] [] [] []) sym sure41_w rfl (fun _ _ _ _ => (ok_cons (Con.Good.env (Con.Good.up ntg_stamp nuup rfl) _ _ _ _) (ok_cons (Con.Good.env nug_nears _ _ _ _) (ok_cons (Con.Good.env (Con.Good.up ntg_ask nuup rfl) _ _ _ _) (ok_cons (Con.Good.env (Con.Good.up ntg_encode nuup rfl) _ _ _ _) (ok_cons (Con.Good.env nug_dec47 _ _ _ _) (ok_cons (Con.Good.env (Con.Good.up ntg_num nuup rfl) _ _ _ _) (ok_cons (Con.Good.env (Con.Good.up ntg_short nuup rfl) _ _ _ _) ok_nil)))))))) sure41_h
end Go.Proofs.YtgondiedehjkhaaDoor
