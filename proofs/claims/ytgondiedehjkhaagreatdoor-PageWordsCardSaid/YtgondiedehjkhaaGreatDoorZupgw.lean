/-
 Layer 20 by the second engine: pages, words, how they are laid.
-/
import Derived.Test.YtgondiedehjkhaaGreatDoorSycpgw
import Derived.Test.YtgondiedehjkhaaGreatDoorZppgw
import Derived.Test.YtgondiedehjkhaaGreatDoorE00pgw
namespace Go.Proofs.YtgondiedehjkhaaGreatDoor
open Go.RowKit Go.Extern.Stop Go.Stop Go.Extern Go.Proofs.YtgondiedehjkhaaGreatDoor.Sy
set_option linter.unusedVariables false
set_option linter.unusedSimpArgs false
abbrev xrzupgwk8_ : Tm := (.vapp 6 (.cons (.vapp 6 (.cons (.vapp 6 (.cons (.tup .nil) (.cons (.int .i64 (wr_ v1_)) .nil))) (.cons (.int .i64 (wr_ v2_)) .nil))) (.cons (.int .i64 (wr_ v3_)) .nil)))
abbrev xrzupgwk0_ : Tm := (.vapp 6 (.cons (.vapp 6 (.cons (.vapp 6 (.cons (.vapp 6 (.cons xrzupgwk8_ (.cons (.int .i64 (wr_ v4_)) .nil))) (.cons (.int .i64 (wr_ v5_)) .nil))) (.cons (.int .i64 (wr_ v6_)) .nil))) (.cons (.int .i64 (wr_ v7_)) .nil)))
abbrev xrzupgwk1_ : Tm := (.tup (.cons z0_ (.cons z1_ (.cons z2_ (.cons z3_ (.cons (.int .u32 v4_) (.cons z5_ (.cons (.int .u32 v6_) (.cons z7_ (.cons z8_ (.cons z9_ .nil)))))))))))
abbrev xrzupgwk9_ : Tm := (.vapp 6 (.cons (.vapp 6 (.cons (.vapp 6 (.cons (.tup .nil) (.cons (.int .u64 v1_) .nil))) (.cons (.int .u64 v2_) .nil))) (.cons (.int .u64 v3_) .nil)))
abbrev xrzupgwk2_ : Tm := (.vapp 6 (.cons (.vapp 6 (.cons (.vapp 6 (.cons (.vapp 6 (.cons xrzupgwk9_ (.cons (.int .u64 v4_) .nil))) (.cons (.int .u64 v5_) .nil))) (.cons (.int .u64 v6_) .nil))) (.cons (.int .u64 v7_) .nil)))
abbrev xrzupgwk3_ : Tm := (an_ (an_ (le_ lm_ v0_) (le_ v0_ lM_)) (an_ (an_ (le_ lm_ v1_) (le_ v1_ lM_)) (an_ (an_ (le_ lm_ v2_) (le_ v2_ lM_)) (an_ (an_ (le_ lm_ v3_) (le_ v3_ lM_)) (an_ (an_ (le_ (.lit 0) v4_) (le_ v4_ (.lit 4294967295))) (an_ (an_ (le_ lm_ v5_) (le_ v5_ lM_)) (an_ (an_ (le_ (.lit 0) v6_) (le_ v6_ (.lit 4294967295))) (an_ (an_ (le_ lm_ v7_) (le_ v7_ lM_)) (an_ (an_ (le_ lm_ v8_) (le_ v8_ lM_)) (an_ (le_ lm_ v9_) (le_ v9_ lM_)))))))))))
abbrev xrzupgwk4_ : Tm := (an_ (an_ (le_ (.lit 0) v1_) (le_ v1_ (.lit 18446744073709551615))) (an_ (an_ (le_ (.lit 0) v2_) (le_ v2_ (.lit 18446744073709551615))) (an_ (an_ (le_ (.lit 0) v3_) (le_ v3_ (.lit 18446744073709551615))) (an_ (an_ (le_ (.lit 0) v4_) (le_ v4_ (.lit 18446744073709551615))) (an_ (an_ (le_ (.lit 0) v5_) (le_ v5_ (.lit 18446744073709551615))) (an_ (an_ (le_ (.lit 0) v6_) (le_ v6_ (.lit 18446744073709551615))) (an_ (an_ (le_ (.lit 0) v7_) (le_ v7_ (.lit 18446744073709551615))) (an_ (an_ (le_ (.lit 0) v8_) (le_ v8_ (.lit 18446744073709551615))) (an_ (an_ (le_ (.lit 0) v9_) (le_ v9_ (.lit 18446744073709551615))) (an_ (an_ (le_ (.lit 0) (.var 10)) (le_ (.var 10) (.lit 18446744073709551615))) (an_ (an_ (le_ (.lit 0) (.var 11)) (le_ (.var 11) (.lit 18446744073709551615))) (an_ (an_ (le_ (.lit 0) (.var 12)) (le_ (.var 12) (.lit 18446744073709551615))) (an_ (an_ (le_ (.lit 0) (.var 13)) (le_ (.var 13) (.lit 18446744073709551615))) (an_ (le_ (.lit 0) (.var 14)) (le_ (.var 14) (.lit 18446744073709551615))))))))))))))))
abbrev xrzupgwk5_ : Tm := (.vapp 6 (.cons (.vapp 6 (.cons (.vapp 6 (.cons (.vapp 6 (.cons xrzupgwk0_ (.cons (.int .i64 (wr_ v8_)) .nil))) (.cons (.int .i64 (wr_ v9_)) .nil))) (.cons (.int .i64 (wr_ (.var 10))) .nil))) (.cons (.int .i64 (wr_ (.var 11))) .nil)))
abbrev xrzupgwk6_ : Tm := (.vapp 6 (.cons (.vapp 6 (.cons (.vapp 6 (.cons (.vapp 6 (.cons xrzupgwk2_ (.cons (.int .u64 v8_) .nil))) (.cons (.int .u64 v9_) .nil))) (.cons (.int .u64 (.var 10)) .nil))) (.cons (.int .u64 (.var 11)) .nil)))
abbrev xrzupgwk7_ : Tm := (.agg (.cons z0_ (.cons z1_ (.cons z2_ (.cons z3_ (.cons (.int .u32 v4_) (.cons z5_ (.cons (.int .u32 v6_) (.cons z7_ (.cons z8_ (.cons z9_ .nil)))))))))))
abbrev xrzupgwk10_ : Tm := (.agg (.cons (.int .u64 v0_) (.cons (.int .u64 v1_) (.cons (.int .u64 v2_) (.cons (.int .u64 v3_) (.cons (.int .u64 v4_) (.cons (.int .u64 v5_) (.cons (.int .u64 v6_) (.cons (.int .u64 v7_) (.cons (.int .u64 v8_) (.cons (.int .u64 v9_) (.cons (.int .u64 (.var 10)) (.cons (.int .u64 (.var 11)) (.cons (.int .u64 (.var 12)) (.cons (.int .u64 (.var 13)) (.cons (.int .u64 (.var 14)) (.cons (.int .u64 (.var 15)) .nil)))))))))))))))))
abbrev xrzupgwk11_ : Tm := (.hs (.new 35) (.cons (.int .u64) .nil) (.tup (.cons (.int .u64 (.wrap .u64 v0_)) (.cons (.int .u64 (.wrap .u64 v1_)) (.cons (.int .u64 (.wrap .u64 v2_)) (.cons (.int .u64 (.wrap .u64 v3_)) (.cons (.int .u64 (.wrap .u64 v4_)) (.cons (.int .u64 (.wrap .u64 v5_)) (.cons (.int .u64 (.wrap .u64 v6_)) (.cons (.int .u64 (.wrap .u64 v7_)) (.cons (.int .u64 (.wrap .u64 v8_)) (.cons (.int .u64 (.wrap .u64 v9_)) .nil))))))))))))
abbrev xrzupgwk12_ : Tm := (.iapp 25 (.cons (.tup (.cons (.int .u64 v1_) (.cons (.int .u64 v2_) (.cons (.int .u64 v3_) (.cons (.int .u64 v4_) (.cons (.int .u64 v5_) (.cons (.int .u64 v6_) (.cons (.int .u64 v7_) (.cons (.int .u64 v8_) (.cons (.int .u64 v9_) (.cons (.int .u64 (.var 10)) (.cons (.int .u64 (.var 11)) (.cons (.int .u64 (.var 12)) (.cons (.int .u64 (.var 13)) (.cons (.int .u64 (.var 14)) .nil))))))))))))))) .nil))
abbrev xrzupgwk13_ : Tm := (.vapp 6 (.cons (.vapp 6 (.cons xrzupgwk5_ (.cons (.int .i64 (wr_ (.var 12))) .nil))) (.cons (.int .i64 (wr_ (.var 13))) .nil)))
abbrev xrzupgwk14_ : Tm := (.vapp 6 (.cons (.vapp 6 (.cons xrzupgwk6_ (.cons (.int .u64 (.var 12)) .nil))) (.cons (.int .u64 (.var 13)) .nil)))
abbrev xrzupgwk15_ : Tm := (.tup (.cons (.int .i64 (wr_ (sb_ v0_ v1_))) (.cons (.cst .nilI) .nil)))
def fmP (a s : Int) : Prop := 0 < a ∧ 0 ≤ s ∧ s ≤ 31
instance (a s : Int) : Decidable (fmP a s) := by unfold fmP; infer_instance
def pgP (e b t r gm gs pm ps p c : Int) : Prop := 0 ≤ e ∧ e ≤ 1099511627776 ∧ 0 ≤ b ∧ b ≤ 1152921504606846976 ∧ -4611686018427387904 < t ∧ t < 4611686018427387904 ∧ 0 ≤ r ∧ r ≤ 2305843009213693952 ∧ fmP gm gs ∧ fmP pm ps ∧ 0 ≤ p ∧ p ≤ 2097152 ∧ 1 ≤ c ∧ c ≤ 1125899906842624
instance (e b t r gm gs pm ps p c : Int) : Decidable (pgP e b t r gm gs pm ps p c) := by unfold pgP; infer_instance
def feE (a s : Int) : Int := if fmP a s then 0 else 1
theorem feE_y {a s : Int} (h : fmP a s) : feE a s = 0 := by unfold feE; rw [if_pos h]
theorem feE_n {a s : Int} (h : ¬ fmP a s) : feE a s = 1 := by unfold feE; rw [if_neg h]
def pgE (e b t r gm gs pm ps p c : Int) : Int := if pgP e b t r gm gs pm ps p c then 0 else 1
theorem pgE_y {e b t r gm gs pm ps p c : Int} (h : pgP e b t r gm gs pm ps p c) : pgE e b t r gm gs pm ps p c = 0 := by unfold pgE; rw [if_pos h]
theorem pgE_n {e b t r gm gs pm ps p c : Int} (h : ¬ pgP e b t r gm gs pm ps p c) : pgE e b t r gm gs pm ps p c = 1 := by unfold pgE; rw [if_neg h]
theorem fe_spec (a s : Int) : (fmP a s ∧ feE a s = 0) ∨ (¬ fmP a s ∧ feE a s = 1) := by
 by_cases h : fmP a s
 · exact .inl ⟨h, feE_y h⟩
 · exact .inr ⟨h, feE_n h⟩
abbrev ci (l : List Value) (k : Nat) : Int := Go.RowKit.intOf (l.getD k Go.undef)
def pgB (l : List Value) : Bool := decide (pgP (ci l 0) (ci l 1) (ci l 2) (ci l 3) (ci l 4) (ci l 5) (ci l 6) (ci l 7) (ci l 8) (ci l 9))
def pgL (l : List Value) : Int := pgE (ci l 0) (ci l 1) (ci l 2) (ci l 3) (ci l 4) (ci l 5) (ci l 6) (ci l 7) (ci l 8) (ci l 9)
abbrev pgT (pe pb pt pr gm gs qm qs pp pc : Int) : Value := .tuple #[.int .i64 pe, .int .i64 pb, .int .i64 pt, .int .i64 pr, .int .u32 gm, .int .i64 gs, .int .u32 qm, .int .i64 qs, .int .i64 pp, .int .i64 pc]
theorem pgB_eq (pe pb pt pr gm gs qm qs pp pc : Int) : pgB (Sy.rows (pgT pe pb pt pr gm gs qm qs pp pc)) = decide (pgP pe pb pt pr gm gs qm qs pp pc) := rfl
theorem pgL_eq (pe pb pt pr gm gs qm qs pp pc : Int) : pgL (Sy.rows (pgT pe pb pt pr gm gs qm qs pp pc)) = pgE pe pb pt pr gm gs qm qs pp pc := rfl
def wdL : List Value → List Value
 | [] => []
 | x :: r => numB (Go.RowKit.intOf x) 8 ++ wdL r
def wsI (l : List Value) : Int := (crcMore 0 (byL (wdL l)) : Nat)
def u6 (x : Int) : Int := if x < 0 then x + 18446744073709551616 else x
def wdN (l : List Value) (k : Nat) : Int := if k = 0 ∨ 10 < k then 0 else if k = 3 then u6 (ci l 2) else ci l (k - 1)
def wdK (l : List Value) (q : Int) (k : Nat) : Int := if k = 0 then q else if k = 15 then wsI [.int .u64 (wdN l 1), .int .u64 (wdN l 2), .int .u64 (wdN l 3), .int .u64 (wdN l 4), .int .u64 (wdN l 5), .int .u64 (wdN l 6), .int .u64 (wdN l 7), .int .u64 (wdN l 8), .int .u64 (wdN l 9), .int .u64 (wdN l 10), .int .u64 0, .int .u64 0, .int .u64 0, .int .u64 0] else wdN l k
theorem num8_64 {v w : Int} (h : v = w ∨ v = w - 18446744073709551616) : numB v 8 = numB w 8 := by
 rcases h with rfl | rfl
 · rfl
 · simp only [numB]
   congr 1
   · congr 1; omega
   congr 1
   · congr 1; omega
   congr 1
   · congr 1; omega
   congr 1
   · congr 1; omega
   congr 1
   · congr 1; omega
   congr 1
   · congr 1; omega
   congr 1
   · congr 1; omega
   congr 1
   · congr 1; omega
theorem u6_wrap {x : Int} (h0 : -9223372036854775808 ≤ x) (h1 : x ≤ 9223372036854775807) : IntKind.wrap .u64 x = u6 x := by
 unfold u6
 rw [wrap_u64]
 split <;> omega
theorem n6w {w : Int} (h0 : 0 ≤ w) (h1 : w ≤ 18446744073709551615) : numB (IntKind.wrap .i64 w) 8 = numB w 8 := by
 refine num8_64 ?_
 rw [IntKind.wrap_i64]
 omega
theorem wrs {x : Int} (h0 : 0 ≤ x) (h1 : x < 4294967296) : IntKind.wrap .u64 x = x := by
 have := wr_u64 x
 omega
theorem crc_rng (l : List Value) : 0 ≤ ((crcMore 0 (byL l) : Nat) : Int) ∧ ((crcMore 0 (byL l) : Nat) : Int) < 4294967296 := ⟨by omega, crc_lt _⟩
theorem wd0 (pe pb pt pr gm gs qm qs pp pc q : Int) : wdK (Sy.rows (pgT pe pb pt pr gm gs qm qs pp pc)) q (Int.toNat 0) = q := rfl
theorem wd1 (pe pb pt pr gm gs qm qs pp pc q : Int) : wdK (Sy.rows (pgT pe pb pt pr gm gs qm qs pp pc)) q (Int.toNat 1) = pe := rfl
theorem wd2 (pe pb pt pr gm gs qm qs pp pc q : Int) : wdK (Sy.rows (pgT pe pb pt pr gm gs qm qs pp pc)) q (Int.toNat 2) = pb := rfl
theorem wd3 (pe pb pt pr gm gs qm qs pp pc q : Int) : wdK (Sy.rows (pgT pe pb pt pr gm gs qm qs pp pc)) q (Int.toNat 3) = u6 pt := rfl
theorem wd4 (pe pb pt pr gm gs qm qs pp pc q : Int) : wdK (Sy.rows (pgT pe pb pt pr gm gs qm qs pp pc)) q (Int.toNat 4) = pr := rfl
theorem wd5 (pe pb pt pr gm gs qm qs pp pc q : Int) : wdK (Sy.rows (pgT pe pb pt pr gm gs qm qs pp pc)) q (Int.toNat 5) = gm := rfl
theorem wd6 (pe pb pt pr gm gs qm qs pp pc q : Int) : wdK (Sy.rows (pgT pe pb pt pr gm gs qm qs pp pc)) q (Int.toNat 6) = gs := rfl
theorem wd7 (pe pb pt pr gm gs qm qs pp pc q : Int) : wdK (Sy.rows (pgT pe pb pt pr gm gs qm qs pp pc)) q (Int.toNat 7) = qm := rfl
theorem wd8 (pe pb pt pr gm gs qm qs pp pc q : Int) : wdK (Sy.rows (pgT pe pb pt pr gm gs qm qs pp pc)) q (Int.toNat 8) = qs := rfl
theorem wd9 (pe pb pt pr gm gs qm qs pp pc q : Int) : wdK (Sy.rows (pgT pe pb pt pr gm gs qm qs pp pc)) q (Int.toNat 9) = pp := rfl
theorem wd10 (pe pb pt pr gm gs qm qs pp pc q : Int) : wdK (Sy.rows (pgT pe pb pt pr gm gs qm qs pp pc)) q (Int.toNat 10) = pc := rfl
theorem wd11 (pe pb pt pr gm gs qm qs pp pc q : Int) : wdK (Sy.rows (pgT pe pb pt pr gm gs qm qs pp pc)) q (Int.toNat 11) = 0 := rfl
theorem wd12 (pe pb pt pr gm gs qm qs pp pc q : Int) : wdK (Sy.rows (pgT pe pb pt pr gm gs qm qs pp pc)) q (Int.toNat 12) = 0 := rfl
theorem wd13 (pe pb pt pr gm gs qm qs pp pc q : Int) : wdK (Sy.rows (pgT pe pb pt pr gm gs qm qs pp pc)) q (Int.toNat 13) = 0 := rfl
theorem wd14 (pe pb pt pr gm gs qm qs pp pc q : Int) : wdK (Sy.rows (pgT pe pb pt pr gm gs qm qs pp pc)) q (Int.toNat 14) = 0 := rfl
theorem wd15 (pe pb pt pr gm gs qm qs pp pc q : Int) : wdK (Sy.rows (pgT pe pb pt pr gm gs qm qs pp pc)) q (Int.toNat 15) = wsI [.int .u64 pe, .int .u64 pb, .int .u64 (u6 pt), .int .u64 pr, .int .u64 gm, .int .u64 gs, .int .u64 qm, .int .u64 qs, .int .u64 pp, .int .u64 pc, .int .u64 0, .int .u64 0, .int .u64 0, .int .u64 0] := rfl
noncomputable def zuI : Nat → List Value → Int
 | 19, [.int _ a] => szE a
 | 20, [.int _ a] => satE a
 | 21, [.int _ a] => svE a
 | 22, [.int _ a] => erE a
 | 23, [.int _ a, .int _ s] => feE a s
 | 24, [l] => pgL (rows l)
 | 25, [l] => wsI (rows l)
 | 26, [l, .int _ q, .int _ k] => wdK (rows l) q k.toNat
 | i, l => zpI i l
noncomputable def zuB : Nat → List Value → Bool
 | 4, [.int _ a, .int _ s] => decide (fmP a s)
 | 5, [l] => pgB (rows l)
 | i, l => zpB i l
noncomputable def zuV : Nat → List Value → Value
 | i, l => zpV i l
noncomputable abbrev zuE (iv : List Int) (bv : List Bool) (vv : List Value) (sv : List ByteArray) : Env := { iv := iv, bv := bv, vv := vv, sv := sv, fi := zuI, fb := zuB, fv := zuV, et := 111 }
set_option maxHeartbeats 8000000 in
theorem zuup : Agree 19 4 12 (zpE [] [] [] []) (zuE [] [] [] []) := ⟨rfl, (by
   intro f hf
   funext l
   show zuI f l = zpI f l
   unfold zuI
   split <;> first | rfl | omega), (by
   intro f hf
   funext l
   show zuB f l = zpB f l
   unfold zuB
   split <;> first | rfl | omega), (by
   intro f hf
   funext l
   show zuV f l = zpV f l
   unfold zuV
   split <;> first | rfl | omega)⟩
theorem zui_sum (l : Value) : zuI 3 [l] = ((crcMore 0 (byL (rows l)) : Nat) : Int) := rfl
theorem zui_sz (k1 : IntKind) (a : Int) : zuI 19 [.int k1 a] = szE a := rfl
theorem zui_sa (k1 : IntKind) (a : Int) : zuI 20 [.int k1 a] = satE a := rfl
theorem zui_nv (k1 : IntKind) (a : Int) : zuI 21 [.int k1 a] = svE a := rfl
theorem zui_ne (k1 : IntKind) (a : Int) : zuI 22 [.int k1 a] = erE a := rfl
theorem zui_fe (k1 : IntKind) (a : Int) (k2 : IntKind) (s : Int) : zuI 23 [.int k1 a, .int k2 s] = feE a s := rfl
theorem zui_pge (l : Value) : zuI 24 [l] = pgL (rows l) := rfl
theorem zui_ws (l : Value) : zuI 25 [l] = wsI (rows l) := rfl
theorem zui_lw (l : Value) (k1 : IntKind) (q : Int) (k2 : IntKind) (k : Int) : zuI 26 [l, .int k1 q, .int k2 k] = wdK (rows l) q k.toNat := rfl
theorem zub_okr (l : Value) : zuB 0 [l] = okR (rows l) := rfl
theorem zub_fm (k1 : IntKind) (a : Int) (k2 : IntKind) (s : Int) : zuB 4 [.int k1 a, .int k2 s] = decide (fmP a s) := rfl
theorem zub_pm (l : Value) : zuB 5 [l] = pgB (rows l) := rfl
theorem zuv_p8 (l : Value) (k1 : IntKind) (v : Int) : zuV 6 [l, .int k1 v] = putV (rows l) v 8 := rfl
def nsub_tree : Tree :=
 (.br (lt_ v1_ (.lit 0))
 (.br (lt_ (wr_ (ad_ lM_ v1_)) v0_)
 (.ret (.tup (.cons (.int .i64 (.lit 0)) (.cons (.iface 111 (.int .i64 (.lit 2))) .nil))))
 (.br (lt_ (.lit 0) v1_)
 (.br (lt_ v0_ (wr_ (ad_ lm_ v1_)))
 (.ret (.tup (.cons (.int .i64 (.lit 0)) (.cons (.iface 111 (.int .i64 (.lit 2))) .nil))))
 (.ret xrzupgwk15_))
 (.ret xrzupgwk15_)))
 (.br (lt_ (.lit 0) v1_)
 (.br (lt_ v0_ (wr_ (ad_ lm_ v1_)))
 (.ret (.tup (.cons (.int .i64 (.lit 0)) (.cons (.iface 111 (.int .i64 (.lit 2))) .nil))))
 (.ret xrzupgwk15_))
 (.ret xrzupgwk15_)))
abbrev zuc_nsub : Con := ⟨131, [z0_, z1_], (an_ (an_ (le_ lm_ v0_) (le_ v0_ lM_)) (an_ (le_ lm_ v1_) (le_ v1_ lM_))), (.tup (.cons (.int .i64 (.iapp 21 (.cons (.int .i64 (sb_ v0_ v1_)) .nil))) (.cons (.err (.iapp 22 (.cons (.int .i64 (sb_ v0_ v1_)) .nil))) .nil))), ⟨2, 0, 0, 0⟩, none⟩
theorem nsub_w : walk Tryz.prog 111 ⟨[], syG, [], [], []⟩ [] .v zuc_nsub zuc_nsub.n 3000 = some nsub_tree := by kernel_rfl
theorem nsub_h (a b : Int) : Hyp_ zuc_nsub nsub_tree (zuE [a, b] [] [] []) := by
 intro hc hty
 simp only [zuc_nsub, Sy.holds, zuE, denV, denI, denB, denL, I2.den, VOp.den, List.getD_cons_zero, List.getD_cons_succ, Cst.den, syso, syse, syio, sybo, B2.ofInts, B2.denI, B2.denB, if_true, Bool.false_eq_true, if_false, Nat.div_one, Nat.mul_one, Nat.add_zero] at hc
 simp only [zuc_nsub, patsTyp, patTyp, patTypL, zuE, denV, denL, List.getD_cons_zero, List.getD_cons_succ, and_true, true_and] at hty
 unfold nsub_tree
 simp only [zuc_nsub, Tree.holds, Sy.holds, zuE, denV, denI, denB, denL, I2.den, VOp.den, List.getD_cons_zero, List.getD_cons_succ, Cst.den, syso, syse, syio, sybo, zui_nv, zui_ne, B2.ofInts, B2.denI, B2.denB, if_true, Bool.false_eq_true, if_false, Nat.div_one, Nat.mul_one, Nat.add_zero]
 refine ⟨fun h0 => ?_, fun h0 => ?_⟩
 have wf0 := wr_i64 (9223372036854775807 + b)
 refine ⟨fun h1 => ?_, fun h1 => ?_⟩
 refine ?a0; rotate_left
 refine ⟨fun h2 => ?_, fun h2 => ?_⟩
 have wf1 := wr_i64 ((-9223372036854775808) + b)
 refine ⟨fun h3 => ?_, fun h3 => ?_⟩
 refine ?a1; rotate_left
 have wf2 := wr_i64 (a - b)
 refine ?a2; rotate_left
 have wf3 := wr_i64 (a - b)
 refine ?a3; rotate_left
 refine ⟨fun h4 => ?_, fun h4 => ?_⟩
 have wf4 := wr_i64 ((-9223372036854775808) + b)
 refine ⟨fun h5 => ?_, fun h5 => ?_⟩
 refine ?a4; rotate_left
 have wf5 := wr_i64 (a - b)
 refine ?a5; rotate_left
 have wf6 := wr_i64 (a - b)
 refine ?a6; rotate_left
 case a0 | a1 | a2 | a3 | a4 | a5 | a6 =>
  have hs := svE_spec (a - b)
  by_cases hr : -9223372036854775808 ≤ a - b ∧ a - b ≤ 9223372036854775807
  · have e1 : svE (a - b) = a - b := by omega
    have e2 : erE (a - b) = 0 := by omega
    rw [e1, e2]
    first
    | (exfalso; omega)
    | (rw [show IntKind.wrap .i64 (a - b) = a - b by omega]; rfl)
  · have e1 : svE (a - b) = 0 := by omega
    have e2 : erE (a - b) = 2 := by omega
    rw [e1, e2]
    first
    | (exfalso; omega)
    | rfl
theorem zug_nsub : zuc_nsub.Good Tryz.prog syG (zuE [] [] [] []) := good_of_walk (Γ := ⟨[], syG, [], [], []⟩) (ρ := zuE [] [] [] []) sym nsub_w rfl (fun _ _ _ _ => ok_nil) nsub_h
def subsat_tree : Tree :=
 (.need (an_ (an_ (le_ lm_ v0_) (le_ v0_ lM_)) (an_ (le_ lm_ v1_) (le_ v1_ lM_)))
 (.br (eq_ (.iapp 22 (.cons (.int .i64 (sb_ v0_ v1_)) .nil)) (.lit 0))
 (.ret (.int .i64 (.iapp 21 (.cons (.int .i64 (sb_ v0_ v1_)) .nil))))
 (.br (lt_ v1_ (.lit 0))
 (.ret (.int .i64 lM_))
 (.ret (.int .i64 lm_)))))
abbrev zuc_subsat : Con := ⟨81, [z0_, z1_], (an_ (an_ (le_ lm_ v0_) (le_ v0_ lM_)) (an_ (le_ lm_ v1_) (le_ v1_ lM_))), (.int .i64 (.iapp 20 (.cons (.int .i64 (sb_ v0_ v1_)) .nil))), ⟨2, 0, 0, 0⟩, none⟩
theorem subsat_w : walk Tryz.prog 111 ⟨[zuc_nsub], syG, [], [], []⟩ [] .v zuc_subsat zuc_subsat.n 3000 = some subsat_tree := by kernel_rfl
theorem subsat_h (a b : Int) : Hyp_ zuc_subsat subsat_tree (zuE [a, b] [] [] []) := by
 intro hc hty
 simp only [zuc_subsat, Sy.holds, zuE, denV, denI, denB, denL, I2.den, VOp.den, List.getD_cons_zero, List.getD_cons_succ, Cst.den, syso, syse, syio, sybo, B2.ofInts, B2.denI, B2.denB, if_true, Bool.false_eq_true, if_false, Nat.div_one, Nat.mul_one, Nat.add_zero] at hc
 simp only [zuc_subsat, patsTyp, patTyp, patTypL, zuE, denV, denL, List.getD_cons_zero, List.getD_cons_succ, and_true, true_and] at hty
 unfold subsat_tree
 simp only [zuc_subsat, Tree.holds, Sy.holds, zuE, denV, denI, denB, denL, I2.den, VOp.den, List.getD_cons_zero, List.getD_cons_succ, Cst.den, syso, syse, syio, sybo, zui_sa, zui_nv, zui_ne, B2.ofInts, B2.denI, B2.denB, if_true, Bool.false_eq_true, if_false, Nat.div_one, Nat.mul_one, Nat.add_zero]
 refine ⟨?_, fun h0 => ?_⟩
 ·
  omega
 refine ⟨fun h1 => ?_, fun h1 => ?_⟩
 refine ?a0; rotate_left
 refine ⟨fun h2 => ?_, fun h2 => ?_⟩
 refine ?a1; rotate_left
 refine ?a2; rotate_left
 case a0 | a1 | a2 =>
  have hs := svE_spec (a - b)
  have ht := satE_spec (a - b)
  first
  | (exfalso; omega)
  | (rw [show satE (a - b) = svE (a - b) by omega]; done)
  | (rw [show satE (a - b) = 9223372036854775807 by omega]; done)
  | (rw [show satE (a - b) = -9223372036854775808 by omega]; done)
theorem zug_subsat : zuc_subsat.Good Tryz.prog syG (zuE [] [] [] []) := good_of_walk (Γ := ⟨[zuc_nsub], syG, [], [], []⟩) (ρ := zuE [] [] [] []) sym subsat_w rfl (fun _ _ _ _ => (ok_cons (Con.Good.env zug_nsub _ _ _ _) ok_nil)) subsat_h
def size_tree : Tree :=
 (.br (lt_ v0_ (.lit 0))
 (.need (an_ (le_ lm_ v0_) (le_ v0_ lM_))
 (.ret (.int .i64 (.iapp 20 (.cons (.int .i64 (sb_ (.lit 0) v0_)) .nil)))))
 (.ret z0_))
abbrev zuc_size : Con := ⟨36, [z0_], (an_ (le_ lm_ v0_) (le_ v0_ lM_)), (.int .i64 (.iapp 19 (.cons z0_ .nil))), ⟨1, 0, 0, 0⟩, none⟩
theorem size_w : walk Tryz.prog 111 ⟨[zuc_subsat], syG, [], [], []⟩ [] .v zuc_size zuc_size.n 3000 = some size_tree := by kernel_rfl
theorem size_h (a : Int) : Hyp_ zuc_size size_tree (zuE [a] [] [] []) := by
 intro hc hty
 simp only [zuc_size, Sy.holds, zuE, denV, denI, denB, denL, I2.den, VOp.den, List.getD_cons_zero, List.getD_cons_succ, Cst.den, syso, syse, syio, sybo, B2.ofInts, B2.denI, B2.denB, if_true, Bool.false_eq_true, if_false, Nat.div_one, Nat.mul_one, Nat.add_zero] at hc
 simp only [zuc_size, patsTyp, patTyp, patTypL, zuE, denV, denL, List.getD_cons_zero, List.getD_cons_succ, and_true, true_and] at hty
 unfold size_tree
 simp only [zuc_size, Tree.holds, Sy.holds, zuE, denV, denI, denB, denL, I2.den, VOp.den, List.getD_cons_zero, List.getD_cons_succ, Cst.den, syso, syse, syio, sybo, zui_sz, zui_sa, B2.ofInts, B2.denI, B2.denB, if_true, Bool.false_eq_true, if_false, Nat.div_one, Nat.mul_one, Nat.add_zero]
 refine ⟨fun h0 => ?_, fun h0 => ?_⟩
 refine ⟨?_, fun h1 => ?_⟩
 ·
  omega
 refine ?a0; rotate_left
 refine ?a1; rotate_left
 case a0 | a1 =>
  have hs := szE_spec a ⟨by omega, by omega⟩
  have ht := satE_spec (0 - a)
  first
  | (exfalso; omega)
  | (rw [show szE a = a by omega]; done)
  | (rw [show szE a = satE (0 - a) by omega]; done)
theorem zug_size : zuc_size.Good Tryz.prog syG (zuE [] [] [] []) := good_of_walk (Γ := ⟨[zuc_subsat], syG, [], [], []⟩) (ρ := zuE [] [] [] []) sym size_w rfl (fun _ _ _ _ => (ok_cons (Con.Good.env zug_subsat _ _ _ _) ok_nil)) size_h
def rcheck_tree : Tree :=
 (.br (eq_ v0_ (.lit 0))
 (.ret (.iface 111 (.int .i64 (.lit 1))))
 (.br (lt_ v1_ (.lit 0))
 (.ret (.iface 111 (.int .i64 (.lit 1))))
 (.br (lt_ (.lit 31) v1_)
 (.ret (.iface 111 (.int .i64 (.lit 1))))
 (.ret (.cst .nilI)))))
abbrev zuc_rcheck : Con := ⟨48, [(.agg (.cons (.int .u32 v0_) (.cons z1_ .nil)))], (an_ (an_ (le_ (.lit 0) v0_) (le_ v0_ (.lit 4294967295))) (an_ (le_ lm_ v1_) (le_ v1_ lM_))), (.err (.iapp 23 (.cons (.int .u32 v0_) (.cons z1_ .nil)))), ⟨2, 0, 0, 0⟩, none⟩
theorem rcheck_w : walk Tryz.prog 111 ⟨[], syG, [], [], []⟩ [] .v zuc_rcheck zuc_rcheck.n 3000 = some rcheck_tree := by kernel_rfl
theorem rcheck_h (a s : Int) : Hyp_ zuc_rcheck rcheck_tree (zuE [a, s] [] [] []) := by
 intro hc hty
 simp only [zuc_rcheck, Sy.holds, zuE, denV, denI, denB, denL, I2.den, VOp.den, List.getD_cons_zero, List.getD_cons_succ, Cst.den, syso, syse, syio, sybo, B2.ofInts, B2.denI, B2.denB, if_true, Bool.false_eq_true, if_false, Nat.div_one, Nat.mul_one, Nat.add_zero] at hc
 simp only [zuc_rcheck, patsTyp, patTyp, patTypL, zuE, denV, denL, List.getD_cons_zero, List.getD_cons_succ, and_true, true_and] at hty
 unfold rcheck_tree
 simp only [zuc_rcheck, Tree.holds, Sy.holds, zuE, denV, denI, denB, denL, I2.den, VOp.den, List.getD_cons_zero, List.getD_cons_succ, Cst.den, syso, syse, syio, sybo, zui_fe, B2.ofInts, B2.denI, B2.denB, if_true, Bool.false_eq_true, if_false, Nat.div_one, Nat.mul_one, Nat.add_zero]
 refine ⟨fun h0 => ?_, fun h0 => ?_⟩
 refine ?a0; rotate_left
 refine ⟨fun h1 => ?_, fun h1 => ?_⟩
 refine ?a1; rotate_left
 refine ⟨fun h2 => ?_, fun h2 => ?_⟩
 refine ?a2; rotate_left
 refine ?a3; rotate_left
 case a0 | a1 | a2 | a3 =>
  first
  | (rw [feE_y (show fmP a s from ⟨by omega, by omega, by omega⟩)]; rfl)
  | (rw [feE_n (show ¬ fmP a s from fun hx => by unfold fmP at hx; omega)]; rfl)
theorem zug_rcheck : zuc_rcheck.Good Tryz.prog syG (zuE [] [] [] []) := good_of_walk (Γ := ⟨[], syG, [], [], []⟩) (ρ := zuE [] [] [] []) sym rcheck_w rfl (fun _ _ _ _ => ok_nil) rcheck_h
def rfmay_tree : Tree :=
 (.br (lt_ (.lit 0) v0_)
 (.br (le_ (.lit 0) v1_)
 (.ret (.bool (le_ v1_ (.lit 31))))
 (.ret (.bool (.tt false))))
 (.ret (.bool (.tt false))))
abbrev zuc_rfmay : Con := ⟨49, [(.agg (.cons (.int .u32 v0_) (.cons z1_ .nil)))], (an_ (an_ (le_ (.lit 0) v0_) (le_ v0_ (.lit 4294967295))) (an_ (le_ lm_ v1_) (le_ v1_ lM_))), (.bool (.bapp 4 (.cons (.int .u32 v0_) (.cons z1_ .nil)))), ⟨2, 0, 0, 0⟩, none⟩
theorem rfmay_w : walk Tryz.prog 111 ⟨[], syG, [], [], []⟩ [] .v zuc_rfmay zuc_rfmay.n 3000 = some rfmay_tree := by kernel_rfl
theorem rfmay_h (a s : Int) : Hyp_ zuc_rfmay rfmay_tree (zuE [a, s] [] [] []) := by
 intro hc hty
 simp only [zuc_rfmay, Sy.holds, zuE, denV, denI, denB, denL, I2.den, VOp.den, List.getD_cons_zero, List.getD_cons_succ, Cst.den, syso, syse, syio, sybo, B2.ofInts, B2.denI, B2.denB, if_true, Bool.false_eq_true, if_false, Nat.div_one, Nat.mul_one, Nat.add_zero] at hc
 simp only [zuc_rfmay, patsTyp, patTyp, patTypL, zuE, denV, denL, List.getD_cons_zero, List.getD_cons_succ, and_true, true_and] at hty
 unfold rfmay_tree
 simp only [zuc_rfmay, Tree.holds, Sy.holds, zuE, denV, denI, denB, denL, I2.den, VOp.den, List.getD_cons_zero, List.getD_cons_succ, Cst.den, syso, syse, syio, sybo, zub_fm, B2.ofInts, B2.denI, B2.denB, if_true, Bool.false_eq_true, if_false, Nat.div_one, Nat.mul_one, Nat.add_zero]
 refine ⟨fun h0 => ?_, fun h0 => ?_⟩
 refine ⟨fun h1 => ?_, fun h1 => ?_⟩
 refine ?a0; rotate_left
 refine ?a1; rotate_left
 refine ?a2; rotate_left
 case a0 | a1 | a2 =>
  refine congrArg Value.bool ?_
  first
  | exact (decide_eq_true (show fmP a s from ⟨by omega, by omega, by omega⟩)).symm
  | exact (decide_eq_false (show ¬ fmP a s from fun hx => by unfold fmP at hx; omega)).symm
  | exact decide_eq_decide.2 ⟨fun h => ⟨by omega, by omega, h⟩, fun h => h.2.2⟩
theorem zug_rfmay : zuc_rfmay.Good Tryz.prog syG (zuE [] [] [] []) := good_of_walk (Γ := ⟨[], syG, [], [], []⟩) (ρ := zuE [] [] [] []) sym rfmay_w rfl (fun _ _ _ _ => ok_nil) rfmay_h
def pcheck_tree : Tree :=
 (.br (lt_ v0_ (.lit 0))
 (.ret (.iface 111 (.int .i64 (.lit 1))))
 (.br (lt_ (.lit 1099511627776) v0_)
 (.ret (.iface 111 (.int .i64 (.lit 1))))
 (.br (lt_ v1_ (.lit 0))
 (.ret (.iface 111 (.int .i64 (.lit 1))))
 (.br (lt_ (.lit 1152921504606846976) v1_)
 (.ret (.iface 111 (.int .i64 (.lit 1))))
 (.need (an_ (le_ lm_ v2_) (le_ v2_ lM_))
 (.br (le_ (.lit 4611686018427387904) (.iapp 19 (.cons z2_ .nil)))
 (.ret (.iface 111 (.int .i64 (.lit 1))))
 (.br (lt_ v3_ (.lit 0))
 (.ret (.iface 111 (.int .i64 (.lit 1))))
 (.br (lt_ (.lit 2305843009213693952) v3_)
 (.ret (.iface 111 (.int .i64 (.lit 1))))
 (.br (lt_ v8_ (.lit 0))
 (.ret (.iface 111 (.int .i64 (.lit 1))))
 (.br (lt_ (.lit 2097152) v8_)
 (.ret (.iface 111 (.int .i64 (.lit 1))))
 (.br (lt_ v9_ (.lit 1))
 (.ret (.iface 111 (.int .i64 (.lit 1))))
 (.br (lt_ (.lit 1125899906842624) v9_)
 (.ret (.iface 111 (.int .i64 (.lit 1))))
 (.need (an_ (an_ (le_ (.lit 0) v4_) (le_ v4_ (.lit 4294967295))) (an_ (le_ lm_ v5_) (le_ v5_ lM_)))
 (.br (.not (eq_ (.iapp 23 (.cons (.int .u32 v4_) (.cons z5_ .nil))) (.lit 0)))
 (.ret (.iface 111 (.int .i64 (.lit 1))))
 (.need (an_ (an_ (le_ (.lit 0) v6_) (le_ v6_ (.lit 4294967295))) (an_ (le_ lm_ v7_) (le_ v7_ lM_)))
 (.br (.not (eq_ (.iapp 23 (.cons (.int .u32 v6_) (.cons z7_ .nil))) (.lit 0)))
 (.ret (.iface 111 (.int .i64 (.lit 1))))
 (.ret (.cst .nilI))))))))))))))))))
abbrev zuc_pcheck : Con := ⟨17, [xrzupgwk7_], xrzupgwk3_, (.err (.iapp 24 (.cons xrzupgwk1_ .nil))), ⟨10, 0, 0, 0⟩, none⟩
theorem pcheck_w : walk Tryz.prog 111 ⟨[zuc_size, zuc_rcheck], syG, [], [], []⟩ [] .v zuc_pcheck zuc_pcheck.n 3000 = some pcheck_tree := by kernel_rfl
theorem pcheck_h (pe pb pt pr gm gs qm qs pp pc : Int) : Hyp_ zuc_pcheck pcheck_tree (zuE [pe, pb, pt, pr, gm, gs, qm, qs, pp, pc] [] [] []) := by
 intro hc hty
 simp only [zuc_pcheck, Sy.holds, zuE, denV, denI, denB, denL, I2.den, VOp.den, List.getD_cons_zero, List.getD_cons_succ, Cst.den, syso, syse, syio, sybo, B2.ofInts, B2.denI, B2.denB, if_true, Bool.false_eq_true, if_false, Nat.div_one, Nat.mul_one, Nat.add_zero] at hc
 simp only [zuc_pcheck, patsTyp, patTyp, patTypL, zuE, denV, denL, List.getD_cons_zero, List.getD_cons_succ, and_true, true_and] at hty
 unfold pcheck_tree
 simp only [zuc_pcheck, Tree.holds, Sy.holds, zuE, denV, denI, denB, denL, I2.den, VOp.den, List.getD_cons_zero, List.getD_cons_succ, Cst.den, syso, syse, syio, sybo, zui_sz, zui_fe, zui_pge, B2.ofInts, B2.denI, B2.denB, if_true, Bool.false_eq_true, if_false, Nat.div_one, Nat.mul_one, Nat.add_zero]
 have hz := szE_spec pt ⟨by omega, by omega⟩
 refine ⟨fun h0 => ?_, fun h0 => ?_⟩
 refine ?a0; rotate_left
 refine ⟨fun h1 => ?_, fun h1 => ?_⟩
 refine ?a1; rotate_left
 refine ⟨fun h2 => ?_, fun h2 => ?_⟩
 refine ?a2; rotate_left
 refine ⟨fun h3 => ?_, fun h3 => ?_⟩
 refine ?a3; rotate_left
 refine ⟨?_, fun h4 => ?_⟩
 ·
  omega
 refine ⟨fun h5 => ?_, fun h5 => ?_⟩
 refine ?a4; rotate_left
 refine ⟨fun h6 => ?_, fun h6 => ?_⟩
 refine ?a5; rotate_left
 refine ⟨fun h7 => ?_, fun h7 => ?_⟩
 refine ?a6; rotate_left
 refine ⟨fun h8 => ?_, fun h8 => ?_⟩
 refine ?a7; rotate_left
 refine ⟨fun h9 => ?_, fun h9 => ?_⟩
 refine ?a8; rotate_left
 refine ⟨fun h10 => ?_, fun h10 => ?_⟩
 refine ?a9; rotate_left
 refine ⟨fun h11 => ?_, fun h11 => ?_⟩
 refine ?a10; rotate_left
 refine ⟨?_, fun h12 => ?_⟩
 ·
  omega
 refine ⟨fun h13 => ?_, fun h13 => ?_⟩
 refine ?a11; rotate_left
 refine ⟨?_, fun h14 => ?_⟩
 ·
  omega
 refine ⟨fun h15 => ?_, fun h15 => ?_⟩
 refine ?a12; rotate_left
 refine ?a13; rotate_left
 case a0 | a1 | a2 | a3 | a4 | a5 | a6 | a7 | a8 | a9 | a10 | a11 | a12 | a13 =>
  rw [pgL_eq]
  by_cases hp : pgP pe pb pt pr gm gs qm qs pp pc
  · rw [pgE_y hp]
    obtain ⟨a1, a2, a3, a4, a5, a6, a7, a8, f1, f2, a11, a12, a13, a14⟩ := hp
    have e1 := feE_y f1
    have e2 := feE_y f2
    first
    | (exfalso; omega)
    | rfl
  · rw [pgE_n hp]
    rcases fe_spec gm gs with ⟨f1, e1⟩ | ⟨f1, e1⟩ <;> rcases fe_spec qm qs with ⟨f2, e2⟩ | ⟨f2, e2⟩
    all_goals first
    | rfl
    | (exfalso; omega)
    | exact absurd ⟨by omega, by omega, by omega, by omega, by omega, by omega, by omega, by omega, f1, f2, by omega, by omega, by omega, by omega⟩ hp
theorem zug_pcheck : zuc_pcheck.Good Tryz.prog syG (zuE [] [] [] []) := good_of_walk (Γ := ⟨[zuc_size, zuc_rcheck], syG, [], [], []⟩) (ρ := zuE [] [] [] []) sym pcheck_w rfl (fun _ _ _ _ => (ok_cons (Con.Good.env zug_size _ _ _ _) (ok_cons (Con.Good.env zug_rcheck _ _ _ _) ok_nil))) pcheck_h
def pmay_tree : Tree :=
 (.br (lt_ v0_ (.lit 0))
 (.ret (.bool (.tt false)))
 (.br (lt_ (.lit 1099511627776) v0_)
 (.ret (.bool (.tt false)))
 (.br (lt_ v1_ (.lit 0))
 (.ret (.bool (.tt false)))
 (.br (lt_ (.lit 1152921504606846976) v1_)
 (.ret (.bool (.tt false)))
 (.br (le_ v2_ (.lit (-4611686018427387904)))
 (.ret (.bool (.tt false)))
 (.br (le_ (.lit 4611686018427387904) v2_)
 (.ret (.bool (.tt false)))
 (.br (lt_ v3_ (.lit 0))
 (.ret (.bool (.tt false)))
 (.br (lt_ (.lit 2305843009213693952) v3_)
 (.ret (.bool (.tt false)))
 (.br (lt_ v8_ (.lit 0))
 (.ret (.bool (.tt false)))
 (.br (lt_ (.lit 2097152) v8_)
 (.ret (.bool (.tt false)))
 (.br (lt_ v9_ (.lit 1))
 (.ret (.bool (.tt false)))
 (.br (lt_ (.lit 1125899906842624) v9_)
 (.ret (.bool (.tt false)))
 (.need (an_ (an_ (le_ (.lit 0) v4_) (le_ v4_ (.lit 4294967295))) (an_ (le_ lm_ v5_) (le_ v5_ lM_)))
 (.br (.bapp 4 (.cons (.int .u32 v4_) (.cons z5_ .nil)))
 (.need (an_ (an_ (le_ (.lit 0) v6_) (le_ v6_ (.lit 4294967295))) (an_ (le_ lm_ v7_) (le_ v7_ lM_)))
 (.ret (.bool (.bapp 4 (.cons (.int .u32 v6_) (.cons z7_ .nil))))))
 (.ret (.bool (.tt false)))))))))))))))))
abbrev zuc_pmay : Con := ⟨18, [xrzupgwk7_], xrzupgwk3_, (.bool (.bapp 5 (.cons xrzupgwk1_ .nil))), ⟨10, 0, 0, 0⟩, none⟩
theorem pmay_w : walk Tryz.prog 111 ⟨[zuc_rfmay], syG, [], [], []⟩ [] .v zuc_pmay zuc_pmay.n 3000 = some pmay_tree := by kernel_rfl
theorem pmay_h (pe pb pt pr gm gs qm qs pp pc : Int) : Hyp_ zuc_pmay pmay_tree (zuE [pe, pb, pt, pr, gm, gs, qm, qs, pp, pc] [] [] []) := by
 intro hc hty
 simp only [zuc_pmay, Sy.holds, zuE, denV, denI, denB, denL, I2.den, VOp.den, List.getD_cons_zero, List.getD_cons_succ, Cst.den, syso, syse, syio, sybo, B2.ofInts, B2.denI, B2.denB, if_true, Bool.false_eq_true, if_false, Nat.div_one, Nat.mul_one, Nat.add_zero] at hc
 simp only [zuc_pmay, patsTyp, patTyp, patTypL, zuE, denV, denL, List.getD_cons_zero, List.getD_cons_succ, and_true, true_and] at hty
 unfold pmay_tree
 simp only [zuc_pmay, Tree.holds, Sy.holds, zuE, denV, denI, denB, denL, I2.den, VOp.den, List.getD_cons_zero, List.getD_cons_succ, Cst.den, syso, syse, syio, sybo, zub_fm, zub_pm, B2.ofInts, B2.denI, B2.denB, if_true, Bool.false_eq_true, if_false, Nat.div_one, Nat.mul_one, Nat.add_zero]
 refine ⟨fun h0 => ?_, fun h0 => ?_⟩
 refine ?a0; rotate_left
 refine ⟨fun h1 => ?_, fun h1 => ?_⟩
 refine ?a1; rotate_left
 refine ⟨fun h2 => ?_, fun h2 => ?_⟩
 refine ?a2; rotate_left
 refine ⟨fun h3 => ?_, fun h3 => ?_⟩
 refine ?a3; rotate_left
 refine ⟨fun h4 => ?_, fun h4 => ?_⟩
 refine ?a4; rotate_left
 refine ⟨fun h5 => ?_, fun h5 => ?_⟩
 refine ?a5; rotate_left
 refine ⟨fun h6 => ?_, fun h6 => ?_⟩
 refine ?a6; rotate_left
 refine ⟨fun h7 => ?_, fun h7 => ?_⟩
 refine ?a7; rotate_left
 refine ⟨fun h8 => ?_, fun h8 => ?_⟩
 refine ?a8; rotate_left
 refine ⟨fun h9 => ?_, fun h9 => ?_⟩
 refine ?a9; rotate_left
 refine ⟨fun h10 => ?_, fun h10 => ?_⟩
 refine ?a10; rotate_left
 refine ⟨fun h11 => ?_, fun h11 => ?_⟩
 refine ?a11; rotate_left
 refine ⟨?_, fun h12 => ?_⟩
 ·
  omega
 refine ⟨fun h13 => ?_, fun h13 => ?_⟩
 refine ⟨?_, fun h14 => ?_⟩
 ·
  omega
 refine ?a12; rotate_left
 refine ?a13; rotate_left
 case a0 | a1 | a2 | a3 | a4 | a5 | a6 | a7 | a8 | a9 | a10 | a11 | a12 | a13 =>
  rw [pgB_eq]
  refine congrArg Value.bool ?_
  by_cases hp : pgP pe pb pt pr gm gs qm qs pp pc
  · have e0 := decide_eq_true hp
    obtain ⟨a1, a2, a3, a4, a5, a6, a7, a8, f1, f2, a11, a12, a13, a14⟩ := hp
    first
    | (exfalso; omega)
    | exact e0.symm
    | exact (decide_eq_true f2).trans e0.symm
    | exact absurd (decide_eq_true f1) (by assumption)
  · have e0 := decide_eq_false hp
    by_cases f1 : fmP gm gs
    · by_cases f2 : fmP qm qs
      · first
        | exact e0.symm
        | (exfalso; omega)
        | exact absurd ⟨by omega, by omega, by omega, by omega, by omega, by omega, by omega, by omega, f1, f2, by omega, by omega, by omega, by omega⟩ hp
        | exact absurd (decide_eq_true f1) (by assumption)
      · first
        | exact e0.symm
        | (exfalso; omega)
        | exact (decide_eq_false f2).trans e0.symm
        | exact absurd (decide_eq_true f1) (by assumption)
    · first
      | exact e0.symm
      | (exfalso; omega)
      | exact absurd (of_decide_eq_true (by assumption)) f1
theorem zug_pmay : zuc_pmay.Good Tryz.prog syG (zuE [] [] [] []) := good_of_walk (Γ := ⟨[zuc_rfmay], syG, [], [], []⟩) (ρ := zuE [] [] [] []) sym pmay_w rfl (fun _ _ _ _ => (ok_cons (Con.Good.env zug_rfmay _ _ _ _) ok_nil)) pmay_h
def psum_tree : Tree :=
 (.need (an_ (le_ (.ofI (.vop (.len 1) (.cons (.tup .nil) .nil))) (.lit 70368744177664)) (an_ (le_ lm_ (wr_ v1_)) (le_ (wr_ v1_) lM_)))
 (.need (an_ (le_ (.ofI (.vop (.len 1) (.cons (.vapp 6 (.cons (.tup .nil) (.cons (.int .i64 (wr_ v1_)) .nil))) .nil))) (.lit 70368744177664)) (an_ (le_ lm_ (wr_ v2_)) (le_ (wr_ v2_) lM_)))
 (.need (an_ (le_ (.ofI (.vop (.len 1) (.cons (.vapp 6 (.cons (.vapp 6 (.cons (.tup .nil) (.cons (.int .i64 (wr_ v1_)) .nil))) (.cons (.int .i64 (wr_ v2_)) .nil))) .nil))) (.lit 70368744177664)) (an_ (le_ lm_ (wr_ v3_)) (le_ (wr_ v3_) lM_)))
 (.need (an_ (le_ (.ofI (.vop (.len 1) (.cons xrzupgwk8_ .nil))) (.lit 70368744177664)) (an_ (le_ lm_ (wr_ v4_)) (le_ (wr_ v4_) lM_)))
 (.need (an_ (le_ (.ofI (.vop (.len 1) (.cons (.vapp 6 (.cons xrzupgwk8_ (.cons (.int .i64 (wr_ v4_)) .nil))) .nil))) (.lit 70368744177664)) (an_ (le_ lm_ (wr_ v5_)) (le_ (wr_ v5_) lM_)))
 (.need (an_ (le_ (.ofI (.vop (.len 1) (.cons (.vapp 6 (.cons (.vapp 6 (.cons xrzupgwk8_ (.cons (.int .i64 (wr_ v4_)) .nil))) (.cons (.int .i64 (wr_ v5_)) .nil))) .nil))) (.lit 70368744177664)) (an_ (le_ lm_ (wr_ v6_)) (le_ (wr_ v6_) lM_)))
 (.need (an_ (le_ (.ofI (.vop (.len 1) (.cons (.vapp 6 (.cons (.vapp 6 (.cons (.vapp 6 (.cons xrzupgwk8_ (.cons (.int .i64 (wr_ v4_)) .nil))) (.cons (.int .i64 (wr_ v5_)) .nil))) (.cons (.int .i64 (wr_ v6_)) .nil))) .nil))) (.lit 70368744177664)) (an_ (le_ lm_ (wr_ v7_)) (le_ (wr_ v7_) lM_)))
 (.need (an_ (le_ (.ofI (.vop (.len 1) (.cons xrzupgwk0_ .nil))) (.lit 70368744177664)) (an_ (le_ lm_ (wr_ v8_)) (le_ (wr_ v8_) lM_)))
 (.need (an_ (le_ (.ofI (.vop (.len 1) (.cons (.vapp 6 (.cons xrzupgwk0_ (.cons (.int .i64 (wr_ v8_)) .nil))) .nil))) (.lit 70368744177664)) (an_ (le_ lm_ (wr_ v9_)) (le_ (wr_ v9_) lM_)))
 (.need (an_ (le_ (.ofI (.vop (.len 1) (.cons (.vapp 6 (.cons (.vapp 6 (.cons xrzupgwk0_ (.cons (.int .i64 (wr_ v8_)) .nil))) (.cons (.int .i64 (wr_ v9_)) .nil))) .nil))) (.lit 70368744177664)) (an_ (le_ lm_ (wr_ (.var 10))) (le_ (wr_ (.var 10)) lM_)))
 (.need (an_ (le_ (.ofI (.vop (.len 1) (.cons (.vapp 6 (.cons (.vapp 6 (.cons (.vapp 6 (.cons xrzupgwk0_ (.cons (.int .i64 (wr_ v8_)) .nil))) (.cons (.int .i64 (wr_ v9_)) .nil))) (.cons (.int .i64 (wr_ (.var 10))) .nil))) .nil))) (.lit 70368744177664)) (an_ (le_ lm_ (wr_ (.var 11))) (le_ (wr_ (.var 11)) lM_)))
 (.need (an_ (le_ (.ofI (.vop (.len 1) (.cons xrzupgwk5_ .nil))) (.lit 70368744177664)) (an_ (le_ lm_ (wr_ (.var 12))) (le_ (wr_ (.var 12)) lM_)))
 (.need (an_ (le_ (.ofI (.vop (.len 1) (.cons (.vapp 6 (.cons xrzupgwk5_ (.cons (.int .i64 (wr_ (.var 12))) .nil))) .nil))) (.lit 70368744177664)) (an_ (le_ lm_ (wr_ (.var 13))) (le_ (wr_ (.var 13)) lM_)))
 (.need (an_ (le_ (.ofI (.vop (.len 1) (.cons xrzupgwk13_ .nil))) (.lit 70368744177664)) (an_ (le_ lm_ (wr_ (.var 14))) (le_ (wr_ (.var 14)) lM_)))
 (.need (.bapp 0 (.cons (.vapp 6 (.cons xrzupgwk13_ (.cons (.int .i64 (wr_ (.var 14))) .nil))) .nil))
 (.ret (.int .u64 (.wrap .u64 (.iapp 3 (.cons (.vapp 6 (.cons xrzupgwk13_ (.cons (.int .i64 (wr_ (.var 14))) .nil))) .nil))))))))))))))))))))
abbrev zuc_psum : Con := ⟨15, [xrzupgwk10_], xrzupgwk4_, (.int .u64 xrzupgwk12_), ⟨16, 0, 0, 0⟩, none⟩
theorem psum_w : walk Tryz.prog 111 ⟨[zpc_i64p, z6c_sum], syG, [], [], []⟩ [] .v zuc_psum zuc_psum.n 3000 = some psum_tree := by kernel_rfl
theorem psum_h (w0 w1 w2 w3 w4 w5 w6 w7 w8 w9 w10 w11 w12 w13 w14 w15 : Int) : Hyp_ zuc_psum psum_tree (zuE [w0, w1, w2, w3, w4, w5, w6, w7, w8, w9, w10, w11, w12, w13, w14, w15] [] [] []) := by
 intro hc hty
 simp only [zuc_psum, Sy.holds, zuE, denV, denI, denB, denL, I2.den, VOp.den, List.getD_cons_zero, List.getD_cons_succ, Cst.den, syso, syse, syio, sybo, B2.ofInts, B2.denI, B2.denB, if_true, Bool.false_eq_true, if_false, Nat.div_one, Nat.mul_one, Nat.add_zero] at hc
 simp only [zuc_psum, patsTyp, patTyp, patTypL, zuE, denV, denL, List.getD_cons_zero, List.getD_cons_succ, and_true, true_and] at hty
 unfold psum_tree
 simp only [zuc_psum, Tree.holds, Sy.holds, zuE, denV, denI, denB, denL, I2.den, VOp.den, List.getD_cons_zero, List.getD_cons_succ, Cst.den, syso, syse, syio, sybo, zui_sum, zui_ws, zub_okr, zuv_p8, B2.ofInts, B2.denI, B2.denB, if_true, Bool.false_eq_true, if_false, Nat.div_one, Nat.mul_one, Nat.add_zero]
 obtain ⟨v1, v2, v3, v4, v5, v6, v7, v8, v9, v10, v11, v12, v13, v14⟩ := hc
 have wf0 := wr_i64 w1
 refine ⟨?_, fun h0 => ?_⟩
 refine ?a0; rotate_left
 have wf1 := wr_i64 w2
 refine ⟨?_, fun h1 => ?_⟩
 refine ?a1; rotate_left
 have wf2 := wr_i64 w3
 refine ⟨?_, fun h2 => ?_⟩
 refine ?a2; rotate_left
 have wf3 := wr_i64 w4
 refine ⟨?_, fun h3 => ?_⟩
 refine ?a3; rotate_left
 have wf4 := wr_i64 w5
 refine ⟨?_, fun h4 => ?_⟩
 refine ?a4; rotate_left
 have wf5 := wr_i64 w6
 refine ⟨?_, fun h5 => ?_⟩
 refine ?a5; rotate_left
 have wf6 := wr_i64 w7
 refine ⟨?_, fun h6 => ?_⟩
 refine ?a6; rotate_left
 have wf7 := wr_i64 w8
 refine ⟨?_, fun h7 => ?_⟩
 refine ?a7; rotate_left
 have wf8 := wr_i64 w9
 refine ⟨?_, fun h8 => ?_⟩
 refine ?a8; rotate_left
 have wf9 := wr_i64 w10
 refine ⟨?_, fun h9 => ?_⟩
 refine ?a9; rotate_left
 have wf10 := wr_i64 w11
 refine ⟨?_, fun h10 => ?_⟩
 refine ?a10; rotate_left
 have wf11 := wr_i64 w12
 refine ⟨?_, fun h11 => ?_⟩
 refine ?a11; rotate_left
 have wf12 := wr_i64 w13
 refine ⟨?_, fun h12 => ?_⟩
 refine ?a12; rotate_left
 have wf13 := wr_i64 w14
 refine ⟨?_, fun h13 => ?_⟩
 refine ?a13; rotate_left
 refine ⟨?_, fun h14 => ?_⟩
 refine ?a14; rotate_left
 have wf14 := wr_u64 (((crcMore 0 (byL (rows (putV (rows (putV (rows (putV (rows (putV (rows (putV (rows (putV (rows (putV (rows (putV (rows (putV (rows (putV (rows (putV (rows (putV (rows (putV (rows (putV (rows (Value.tuple #[])) (IntKind.wrap .i64 w1) 8)) (IntKind.wrap .i64 w2) 8)) (IntKind.wrap .i64 w3) 8)) (IntKind.wrap .i64 w4) 8)) (IntKind.wrap .i64 w5) 8)) (IntKind.wrap .i64 w6) 8)) (IntKind.wrap .i64 w7) 8)) (IntKind.wrap .i64 w8) 8)) (IntKind.wrap .i64 w9) 8)) (IntKind.wrap .i64 w10) 8)) (IntKind.wrap .i64 w11) 8)) (IntKind.wrap .i64 w12) 8)) (IntKind.wrap .i64 w13) 8)) (IntKind.wrap .i64 w14) 8))) : Nat) : Int))
 ·
  have hr := crc_rng (wdL [.int .u64 w1, .int .u64 w2, .int .u64 w3, .int .u64 w4, .int .u64 w5, .int .u64 w6, .int .u64 w7, .int .u64 w8, .int .u64 w9, .int .u64 w10, .int .u64 w11, .int .u64 w12, .int .u64 w13, .int .u64 w14])
  have e : wsI (Sy.rows (Value.tuple #[.int .u64 w1, .int .u64 w2, .int .u64 w3, .int .u64 w4, .int .u64 w5, .int .u64 w6, .int .u64 w7, .int .u64 w8, .int .u64 w9, .int .u64 w10, .int .u64 w11, .int .u64 w12, .int .u64 w13, .int .u64 w14])) = ((crcMore 0 (byL (wdL [.int .u64 w1, .int .u64 w2, .int .u64 w3, .int .u64 w4, .int .u64 w5, .int .u64 w6, .int .u64 w7, .int .u64 w8, .int .u64 w9, .int .u64 w10, .int .u64 w11, .int .u64 w12, .int .u64 w13, .int .u64 w14])) : Nat) : Int) := rfl
  rw [e]
  simp only [put_rows, rows_nil, List.nil_append, List.append_assoc, wdL, List.append_nil, Go.RowKit.intOf, n6w v1.1 v1.2, n6w v2.1 v2.2, n6w v3.1 v3.2, n6w v4.1 v4.2, n6w v5.1 v5.2, n6w v6.1 v6.2, n6w v7.1 v7.2, n6w v8.1 v8.2, n6w v9.1 v9.2, n6w v10.1 v10.2, n6w v11.1 v11.2, n6w v12.1 v12.2, n6w v13.1 v13.2, n6w v14.1 v14.2] at hr ⊢
  first
  | (rw [wrs hr.1 hr.2]; done)
  | (rw [wrs hr.1 hr.2]; rfl)
  | skip
 case a0 | a1 | a2 | a3 | a4 | a5 | a6 | a7 | a8 | a9 | a10 | a11 | a12 | a13 | a14 =>
  first
  | omega
  | (simp only [put_rows, rows_nil, List.length_append, List.length_nil, numB_len]
     omega)
  | (simp only [put_rows, rows_nil]
     exact okR_isB (by repeat (first | exact isB.nil | exact isB_numB _ _ | refine isB.app ?_ ?_)))
  | skip
theorem zug_psum : zuc_psum.Good Tryz.prog syG (zuE [] [] [] []) := good_of_walk (Γ := ⟨[zpc_i64p, z6c_sum], syG, [], [], []⟩) (ρ := zuE [] [] [] []) sym psum_w rfl (fun _ _ _ _ => (ok_cons (Con.Good.env (Con.Good.up zpg_i64p zuup rfl) _ _ _ _) (ok_cons (Con.Good.env (Con.Good.up (Con.Good.up (Con.Good.up z6g_sum zb6up rfl) zpup rfl) zuup rfl) _ _ _ _) ok_nil))) psum_h
def rpsum_tree : Tree :=
 (.need (an_ (le_ (.ofI (.vop (.len 1) (.cons (.tup .nil) .nil))) (.lit 70368744177664)) (an_ (le_ (.lit 0) v1_) (le_ v1_ (.lit 18446744073709551615))))
 (.need (an_ (le_ (.ofI (.vop (.len 1) (.cons (.vapp 6 (.cons (.tup .nil) (.cons (.int .u64 v1_) .nil))) .nil))) (.lit 70368744177664)) (an_ (le_ (.lit 0) v2_) (le_ v2_ (.lit 18446744073709551615))))
 (.need (an_ (le_ (.ofI (.vop (.len 1) (.cons (.vapp 6 (.cons (.vapp 6 (.cons (.tup .nil) (.cons (.int .u64 v1_) .nil))) (.cons (.int .u64 v2_) .nil))) .nil))) (.lit 70368744177664)) (an_ (le_ (.lit 0) v3_) (le_ v3_ (.lit 18446744073709551615))))
 (.need (an_ (le_ (.ofI (.vop (.len 1) (.cons xrzupgwk9_ .nil))) (.lit 70368744177664)) (an_ (le_ (.lit 0) v4_) (le_ v4_ (.lit 18446744073709551615))))
 (.need (an_ (le_ (.ofI (.vop (.len 1) (.cons (.vapp 6 (.cons xrzupgwk9_ (.cons (.int .u64 v4_) .nil))) .nil))) (.lit 70368744177664)) (an_ (le_ (.lit 0) v5_) (le_ v5_ (.lit 18446744073709551615))))
 (.need (an_ (le_ (.ofI (.vop (.len 1) (.cons (.vapp 6 (.cons (.vapp 6 (.cons xrzupgwk9_ (.cons (.int .u64 v4_) .nil))) (.cons (.int .u64 v5_) .nil))) .nil))) (.lit 70368744177664)) (an_ (le_ (.lit 0) v6_) (le_ v6_ (.lit 18446744073709551615))))
 (.need (an_ (le_ (.ofI (.vop (.len 1) (.cons (.vapp 6 (.cons (.vapp 6 (.cons (.vapp 6 (.cons xrzupgwk9_ (.cons (.int .u64 v4_) .nil))) (.cons (.int .u64 v5_) .nil))) (.cons (.int .u64 v6_) .nil))) .nil))) (.lit 70368744177664)) (an_ (le_ (.lit 0) v7_) (le_ v7_ (.lit 18446744073709551615))))
 (.need (an_ (le_ (.ofI (.vop (.len 1) (.cons xrzupgwk2_ .nil))) (.lit 70368744177664)) (an_ (le_ (.lit 0) v8_) (le_ v8_ (.lit 18446744073709551615))))
 (.need (an_ (le_ (.ofI (.vop (.len 1) (.cons (.vapp 6 (.cons xrzupgwk2_ (.cons (.int .u64 v8_) .nil))) .nil))) (.lit 70368744177664)) (an_ (le_ (.lit 0) v9_) (le_ v9_ (.lit 18446744073709551615))))
 (.need (an_ (le_ (.ofI (.vop (.len 1) (.cons (.vapp 6 (.cons (.vapp 6 (.cons xrzupgwk2_ (.cons (.int .u64 v8_) .nil))) (.cons (.int .u64 v9_) .nil))) .nil))) (.lit 70368744177664)) (an_ (le_ (.lit 0) (.var 10)) (le_ (.var 10) (.lit 18446744073709551615))))
 (.need (an_ (le_ (.ofI (.vop (.len 1) (.cons (.vapp 6 (.cons (.vapp 6 (.cons (.vapp 6 (.cons xrzupgwk2_ (.cons (.int .u64 v8_) .nil))) (.cons (.int .u64 v9_) .nil))) (.cons (.int .u64 (.var 10)) .nil))) .nil))) (.lit 70368744177664)) (an_ (le_ (.lit 0) (.var 11)) (le_ (.var 11) (.lit 18446744073709551615))))
 (.need (an_ (le_ (.ofI (.vop (.len 1) (.cons xrzupgwk6_ .nil))) (.lit 70368744177664)) (an_ (le_ (.lit 0) (.var 12)) (le_ (.var 12) (.lit 18446744073709551615))))
 (.need (an_ (le_ (.ofI (.vop (.len 1) (.cons (.vapp 6 (.cons xrzupgwk6_ (.cons (.int .u64 (.var 12)) .nil))) .nil))) (.lit 70368744177664)) (an_ (le_ (.lit 0) (.var 13)) (le_ (.var 13) (.lit 18446744073709551615))))
 (.need (an_ (le_ (.ofI (.vop (.len 1) (.cons xrzupgwk14_ .nil))) (.lit 70368744177664)) (an_ (le_ (.lit 0) (.var 14)) (le_ (.var 14) (.lit 18446744073709551615))))
 (.need (.bapp 0 (.cons (.vapp 6 (.cons xrzupgwk14_ (.cons (.int .u64 (.var 14)) .nil))) .nil))
 (.ret (.int .u64 (.wrap .u64 (.iapp 3 (.cons (.vapp 6 (.cons xrzupgwk14_ (.cons (.int .u64 (.var 14)) .nil))) .nil))))))))))))))))))))
abbrev zuc_rpsum : Con := ⟨16, [xrzupgwk10_], xrzupgwk4_, (.int .u64 xrzupgwk12_), ⟨16, 0, 0, 0⟩, none⟩
theorem rpsum_w : walk Tryz.prog 111 ⟨[zpc_rput8, z6c_rsum], syG, [], [], []⟩ [] .v zuc_rpsum zuc_rpsum.n 3000 = some rpsum_tree := by kernel_rfl
theorem rpsum_h (w0 w1 w2 w3 w4 w5 w6 w7 w8 w9 w10 w11 w12 w13 w14 w15 : Int) : Hyp_ zuc_rpsum rpsum_tree (zuE [w0, w1, w2, w3, w4, w5, w6, w7, w8, w9, w10, w11, w12, w13, w14, w15] [] [] []) := by
 intro hc hty
 simp only [zuc_rpsum, Sy.holds, zuE, denV, denI, denB, denL, I2.den, VOp.den, List.getD_cons_zero, List.getD_cons_succ, Cst.den, syso, syse, syio, sybo, B2.ofInts, B2.denI, B2.denB, if_true, Bool.false_eq_true, if_false, Nat.div_one, Nat.mul_one, Nat.add_zero] at hc
 simp only [zuc_rpsum, patsTyp, patTyp, patTypL, zuE, denV, denL, List.getD_cons_zero, List.getD_cons_succ, and_true, true_and] at hty
 unfold rpsum_tree
 simp only [zuc_rpsum, Tree.holds, Sy.holds, zuE, denV, denI, denB, denL, I2.den, VOp.den, List.getD_cons_zero, List.getD_cons_succ, Cst.den, syso, syse, syio, sybo, zui_sum, zui_ws, zub_okr, zuv_p8, B2.ofInts, B2.denI, B2.denB, if_true, Bool.false_eq_true, if_false, Nat.div_one, Nat.mul_one, Nat.add_zero]
 obtain ⟨v1, v2, v3, v4, v5, v6, v7, v8, v9, v10, v11, v12, v13, v14⟩ := hc
 refine ⟨?_, fun h0 => ?_⟩
 refine ?a0; rotate_left
 refine ⟨?_, fun h1 => ?_⟩
 refine ?a1; rotate_left
 refine ⟨?_, fun h2 => ?_⟩
 refine ?a2; rotate_left
 refine ⟨?_, fun h3 => ?_⟩
 refine ?a3; rotate_left
 refine ⟨?_, fun h4 => ?_⟩
 refine ?a4; rotate_left
 refine ⟨?_, fun h5 => ?_⟩
 refine ?a5; rotate_left
 refine ⟨?_, fun h6 => ?_⟩
 refine ?a6; rotate_left
 refine ⟨?_, fun h7 => ?_⟩
 refine ?a7; rotate_left
 refine ⟨?_, fun h8 => ?_⟩
 refine ?a8; rotate_left
 refine ⟨?_, fun h9 => ?_⟩
 refine ?a9; rotate_left
 refine ⟨?_, fun h10 => ?_⟩
 refine ?a10; rotate_left
 refine ⟨?_, fun h11 => ?_⟩
 refine ?a11; rotate_left
 refine ⟨?_, fun h12 => ?_⟩
 refine ?a12; rotate_left
 refine ⟨?_, fun h13 => ?_⟩
 refine ?a13; rotate_left
 refine ⟨?_, fun h14 => ?_⟩
 refine ?a14; rotate_left
 have wf0 := wr_u64 (((crcMore 0 (byL (rows (putV (rows (putV (rows (putV (rows (putV (rows (putV (rows (putV (rows (putV (rows (putV (rows (putV (rows (putV (rows (putV (rows (putV (rows (putV (rows (putV (rows (Value.tuple #[])) w1 8)) w2 8)) w3 8)) w4 8)) w5 8)) w6 8)) w7 8)) w8 8)) w9 8)) w10 8)) w11 8)) w12 8)) w13 8)) w14 8))) : Nat) : Int))
 ·
  have hr := crc_rng (wdL [.int .u64 w1, .int .u64 w2, .int .u64 w3, .int .u64 w4, .int .u64 w5, .int .u64 w6, .int .u64 w7, .int .u64 w8, .int .u64 w9, .int .u64 w10, .int .u64 w11, .int .u64 w12, .int .u64 w13, .int .u64 w14])
  have e : wsI (Sy.rows (Value.tuple #[.int .u64 w1, .int .u64 w2, .int .u64 w3, .int .u64 w4, .int .u64 w5, .int .u64 w6, .int .u64 w7, .int .u64 w8, .int .u64 w9, .int .u64 w10, .int .u64 w11, .int .u64 w12, .int .u64 w13, .int .u64 w14])) = ((crcMore 0 (byL (wdL [.int .u64 w1, .int .u64 w2, .int .u64 w3, .int .u64 w4, .int .u64 w5, .int .u64 w6, .int .u64 w7, .int .u64 w8, .int .u64 w9, .int .u64 w10, .int .u64 w11, .int .u64 w12, .int .u64 w13, .int .u64 w14])) : Nat) : Int) := rfl
  rw [e]
  simp only [put_rows, rows_nil, List.nil_append, List.append_assoc, wdL, List.append_nil, Go.RowKit.intOf] at hr ⊢
  first
  | (rw [wrs hr.1 hr.2]; done)
  | (rw [wrs hr.1 hr.2]; rfl)
  | skip
 case a0 | a1 | a2 | a3 | a4 | a5 | a6 | a7 | a8 | a9 | a10 | a11 | a12 | a13 | a14 =>
  first
  | omega
  | (simp only [put_rows, rows_nil, List.length_append, List.length_nil, numB_len]
     omega)
  | (simp only [put_rows, rows_nil]
     exact okR_isB (by repeat (first | exact isB.nil | exact isB_numB _ _ | refine isB.app ?_ ?_)))
  | skip
theorem zug_rpsum : zuc_rpsum.Good Tryz.prog syG (zuE [] [] [] []) := good_of_walk (Γ := ⟨[zpc_rput8, z6c_rsum], syG, [], [], []⟩) (ρ := zuE [] [] [] []) sym rpsum_w rfl (fun _ _ _ _ => (ok_cons (Con.Good.env (Con.Good.up zpg_rput8 zuup rfl) _ _ _ _) (ok_cons (Con.Good.env (Con.Good.up (Con.Good.up (Con.Good.up z6g_rsum zb6up rfl) zpup rfl) zuup rfl) _ _ _ _) ok_nil))) rpsum_h
def spread_tree : Tree :=
 (.ret (.agg (.cons z0_ (.cons z1_ (.cons z2_ (.cons z3_ (.cons (.int .i64 (wr_ v4_)) (.cons z5_ (.cons (.int .i64 (wr_ v6_)) (.cons z7_ (.cons z8_ (.cons z9_ .nil))))))))))))
abbrev zuc_spread : Con := ⟨39, [xrzupgwk7_], xrzupgwk3_, (.agg (.cons z0_ (.cons z1_ (.cons z2_ (.cons z3_ (.cons z4_ (.cons z5_ (.cons z6_ (.cons z7_ (.cons z8_ (.cons z9_ .nil))))))))))), ⟨10, 0, 0, 0⟩, none⟩
theorem spread_w : walk Tryz.prog 111 ⟨[], syG, [], [], []⟩ [] .v zuc_spread zuc_spread.n 3000 = some spread_tree := by kernel_rfl
theorem spread_h (pe pb pt pr gm gs qm qs pp pc : Int) : Hyp_ zuc_spread spread_tree (zuE [pe, pb, pt, pr, gm, gs, qm, qs, pp, pc] [] [] []) := by
 intro hc hty
 simp only [zuc_spread, Sy.holds, zuE, denV, denI, denB, denL, I2.den, VOp.den, List.getD_cons_zero, List.getD_cons_succ, Cst.den, syso, syse, syio, sybo, B2.ofInts, B2.denI, B2.denB, if_true, Bool.false_eq_true, if_false, Nat.div_one, Nat.mul_one, Nat.add_zero] at hc
 simp only [zuc_spread, patsTyp, patTyp, patTypL, zuE, denV, denL, List.getD_cons_zero, List.getD_cons_succ, and_true, true_and] at hty
 unfold spread_tree
 simp only [zuc_spread, Tree.holds, Sy.holds, zuE, denV, denI, denB, denL, I2.den, VOp.den, List.getD_cons_zero, List.getD_cons_succ, Cst.den, syso, syse, syio, sybo, B2.ofInts, B2.denI, B2.denB, if_true, Bool.false_eq_true, if_false, Nat.div_one, Nat.mul_one, Nat.add_zero]
 have wf0 := wr_i64 gm
 have wf1 := wr_i64 qm
 rw [show IntKind.wrap .i64 gm = gm by (have := wr_i64 gm; omega), show IntKind.wrap .i64 qm = qm by (have := wr_i64 qm; omega)]
theorem zug_spread : zuc_spread.Good Tryz.prog syG (zuE [] [] [] []) := good_of_walk (Γ := ⟨[], syG, [], [], []⟩) (ρ := zuE [] [] [] []) sym spread_w rfl (fun _ _ _ _ => ok_nil) spread_h
def lay_tree : Tree :=
 (.need xrzupgwk3_
 (.br (.not (eq_ (.iapp 24 (.cons xrzupgwk1_ .nil)) (.lit 0)))
 (.ret (.tup (.cons (.agg (.cons (.int .u64 (.lit 0)) (.cons (.int .u64 (.lit 0)) (.cons (.int .u64 (.lit 0)) (.cons (.int .u64 (.lit 0)) (.cons (.int .u64 (.lit 0)) (.cons (.int .u64 (.lit 0)) (.cons (.int .u64 (.lit 0)) (.cons (.int .u64 (.lit 0)) (.cons (.int .u64 (.lit 0)) (.cons (.int .u64 (.lit 0)) (.cons (.int .u64 (.lit 0)) (.cons (.int .u64 (.lit 0)) (.cons (.int .u64 (.lit 0)) (.cons (.int .u64 (.lit 0)) (.cons (.int .u64 (.lit 0)) (.cons (.int .u64 (.lit 0)) .nil))))))))))))))))) (.cons (.err (.iapp 24 (.cons xrzupgwk1_ .nil))) .nil))))
 (.need xrzupgwk3_
 (.need (an_ (an_ (le_ (.lit 0) (.wrap .u64 v0_)) (le_ (.wrap .u64 v0_) (.lit 18446744073709551615))) (an_ (an_ (le_ (.lit 0) (.wrap .u64 v1_)) (le_ (.wrap .u64 v1_) (.lit 18446744073709551615))) (an_ (an_ (le_ (.lit 0) (.wrap .u64 v2_)) (le_ (.wrap .u64 v2_) (.lit 18446744073709551615))) (an_ (an_ (le_ (.lit 0) (.wrap .u64 v3_)) (le_ (.wrap .u64 v3_) (.lit 18446744073709551615))) (an_ (an_ (le_ (.lit 0) (.wrap .u64 v4_)) (le_ (.wrap .u64 v4_) (.lit 18446744073709551615))) (an_ (an_ (le_ (.lit 0) (.wrap .u64 v5_)) (le_ (.wrap .u64 v5_) (.lit 18446744073709551615))) (an_ (an_ (le_ (.lit 0) (.wrap .u64 v6_)) (le_ (.wrap .u64 v6_) (.lit 18446744073709551615))) (an_ (an_ (le_ (.lit 0) (.wrap .u64 v7_)) (le_ (.wrap .u64 v7_) (.lit 18446744073709551615))) (an_ (an_ (le_ (.lit 0) (.wrap .u64 v8_)) (le_ (.wrap .u64 v8_) (.lit 18446744073709551615))) (an_ (le_ (.lit 0) (.wrap .u64 v9_)) (le_ (.wrap .u64 v9_) (.lit 18446744073709551615))))))))))))
 (.ret (.tup (.cons (.agg (.cons (.int .u64 (.var 10)) (.cons (.int .u64 (.wrap .u64 v0_)) (.cons (.int .u64 (.wrap .u64 v1_)) (.cons (.int .u64 (.wrap .u64 v2_)) (.cons (.int .u64 (.wrap .u64 v3_)) (.cons (.int .u64 (.wrap .u64 v4_)) (.cons (.int .u64 (.wrap .u64 v5_)) (.cons (.int .u64 (.wrap .u64 v6_)) (.cons (.int .u64 (.wrap .u64 v7_)) (.cons (.int .u64 (.wrap .u64 v8_)) (.cons (.int .u64 (.wrap .u64 v9_)) (.cons (.int .u64 (.lit 0)) (.cons (.int .u64 (.lit 0)) (.cons (.int .u64 (.lit 0)) (.cons (.int .u64 (.lit 0)) (.cons (.int .u64 (.iapp 25 (.cons (.tup (.cons (.int .u64 (.wrap .u64 v0_)) (.cons (.int .u64 (.wrap .u64 v1_)) (.cons (.int .u64 (.wrap .u64 v2_)) (.cons (.int .u64 (.wrap .u64 v3_)) (.cons (.int .u64 (.wrap .u64 v4_)) (.cons (.int .u64 (.wrap .u64 v5_)) (.cons (.int .u64 (.wrap .u64 v6_)) (.cons (.int .u64 (.wrap .u64 v7_)) (.cons (.int .u64 (.wrap .u64 v8_)) (.cons (.int .u64 (.wrap .u64 v9_)) (.cons (.int .u64 (.lit 0)) (.cons (.int .u64 (.lit 0)) (.cons (.int .u64 (.lit 0)) (.cons (.int .u64 (.lit 0)) .nil))))))))))))))) .nil))) .nil))))))))))))))))) (.cons (.cst .nilI) .nil))))))))
abbrev zuc_lay : Con := ⟨9, [xrzupgwk7_, (.int .u64 (.var 10))], (an_ xrzupgwk3_ (an_ (.bapp 5 (.cons xrzupgwk1_ .nil)) (an_ (le_ (.lit 0) (.var 10)) (le_ (.var 10) (.lit 18446744073709551615))))), (.tup (.cons (.agg (.cons (.int .u64 (.iapp 26 (.cons xrzupgwk1_ (.cons (.int .u64 (.var 10)) (.cons (.int .i64 (.lit 0)) .nil))))) (.cons (.int .u64 (.iapp 26 (.cons xrzupgwk1_ (.cons (.int .u64 (.var 10)) (.cons (.int .i64 (.lit 1)) .nil))))) (.cons (.int .u64 (.iapp 26 (.cons xrzupgwk1_ (.cons (.int .u64 (.var 10)) (.cons (.int .i64 (.lit 2)) .nil))))) (.cons (.int .u64 (.iapp 26 (.cons xrzupgwk1_ (.cons (.int .u64 (.var 10)) (.cons (.int .i64 (.lit 3)) .nil))))) (.cons (.int .u64 (.iapp 26 (.cons xrzupgwk1_ (.cons (.int .u64 (.var 10)) (.cons (.int .i64 (.lit 4)) .nil))))) (.cons (.int .u64 (.iapp 26 (.cons xrzupgwk1_ (.cons (.int .u64 (.var 10)) (.cons (.int .i64 (.lit 5)) .nil))))) (.cons (.int .u64 (.iapp 26 (.cons xrzupgwk1_ (.cons (.int .u64 (.var 10)) (.cons (.int .i64 (.lit 6)) .nil))))) (.cons (.int .u64 (.iapp 26 (.cons xrzupgwk1_ (.cons (.int .u64 (.var 10)) (.cons (.int .i64 (.lit 7)) .nil))))) (.cons (.int .u64 (.iapp 26 (.cons xrzupgwk1_ (.cons (.int .u64 (.var 10)) (.cons (.int .i64 (.lit 8)) .nil))))) (.cons (.int .u64 (.iapp 26 (.cons xrzupgwk1_ (.cons (.int .u64 (.var 10)) (.cons (.int .i64 (.lit 9)) .nil))))) (.cons (.int .u64 (.iapp 26 (.cons xrzupgwk1_ (.cons (.int .u64 (.var 10)) (.cons (.int .i64 (.lit 10)) .nil))))) (.cons (.int .u64 (.iapp 26 (.cons xrzupgwk1_ (.cons (.int .u64 (.var 10)) (.cons (.int .i64 (.lit 11)) .nil))))) (.cons (.int .u64 (.iapp 26 (.cons xrzupgwk1_ (.cons (.int .u64 (.var 10)) (.cons (.int .i64 (.lit 12)) .nil))))) (.cons (.int .u64 (.iapp 26 (.cons xrzupgwk1_ (.cons (.int .u64 (.var 10)) (.cons (.int .i64 (.lit 13)) .nil))))) (.cons (.int .u64 (.iapp 26 (.cons xrzupgwk1_ (.cons (.int .u64 (.var 10)) (.cons (.int .i64 (.lit 14)) .nil))))) (.cons (.int .u64 (.iapp 26 (.cons xrzupgwk1_ (.cons (.int .u64 (.var 10)) (.cons (.int .i64 (.lit 15)) .nil))))) .nil))))))))))))))))) (.cons (.err (.lit 0)) .nil))), ⟨11, 0, 0, 0⟩, none⟩
theorem lay_w : walk Tryz.prog 111 ⟨[zuc_pcheck, zuc_spread, zuc_psum], syG, [], [], []⟩ [] .v zuc_lay zuc_lay.n 3000 = some lay_tree := by kernel_rfl
theorem lay_h (pe pb pt pr gm gs qm qs pp pc q : Int) : Hyp_ zuc_lay lay_tree (zuE [pe, pb, pt, pr, gm, gs, qm, qs, pp, pc, q] [] [] []) := by
 intro hc hty
 simp only [zuc_lay, Sy.holds, zuE, denV, denI, denB, denL, I2.den, VOp.den, List.getD_cons_zero, List.getD_cons_succ, Cst.den, syso, syse, syio, sybo, zub_pm, B2.ofInts, B2.denI, B2.denB, if_true, Bool.false_eq_true, if_false, Nat.div_one, Nat.mul_one, Nat.add_zero] at hc
 simp only [zuc_lay, patsTyp, patTyp, patTypL, zuE, denV, denL, List.getD_cons_zero, List.getD_cons_succ, and_true, true_and] at hty
 unfold lay_tree
 simp only [zuc_lay, Tree.holds, Sy.holds, zuE, denV, denI, denB, denL, I2.den, VOp.den, List.getD_cons_zero, List.getD_cons_succ, Cst.den, syso, syse, syio, sybo, zui_pge, zui_ws, zui_lw, B2.ofInts, B2.denI, B2.denB, if_true, Bool.false_eq_true, if_false, Nat.div_one, Nat.mul_one, Nat.add_zero]
 have hp : pgP pe pb pt pr gm gs qm qs pp pc := of_decide_eq_true hc.2.1
 have he : pgL (Sy.rows (pgT pe pb pt pr gm gs qm qs pp pc)) = 0 := pgE_y hp
 obtain ⟨a1, a2, a3, a4, a5, a6, a7, a8, f1, f2, a11, a12, a13, a14⟩ := id hp
 unfold fmP at f1 f2
 have ht := u6_wrap (x := pt) (by omega) (by omega)
 have hu : 0 ≤ u6 pt ∧ u6 pt ≤ 18446744073709551615 := by unfold u6; split <;> omega
 refine ⟨?_, fun h0 => ?_⟩
 refine ?a0; rotate_left
 refine ⟨fun h1 => ?_, fun h1 => ?_⟩
 refine ?a1; rotate_left
 refine ⟨?_, fun h2 => ?_⟩
 refine ?a2; rotate_left
 first | have hw0 : IntKind.wrap .u64 pe = pe := by (have hwx := wr_u64 pe; omega) | have wf0 := wr_u64 pe
 first | have hw1 : IntKind.wrap .u64 pb = pb := by (have hwx := wr_u64 pb; omega) | have wf1 := wr_u64 pb
 first | have hw2 : IntKind.wrap .u64 pt = pt := by (have hwx := wr_u64 pt; omega) | have wf2 := wr_u64 pt
 first | have hw3 : IntKind.wrap .u64 pr = pr := by (have hwx := wr_u64 pr; omega) | have wf3 := wr_u64 pr
 first | have hw4 : IntKind.wrap .u64 gm = gm := by (have hwx := wr_u64 gm; omega) | have wf4 := wr_u64 gm
 first | have hw5 : IntKind.wrap .u64 gs = gs := by (have hwx := wr_u64 gs; omega) | have wf5 := wr_u64 gs
 first | have hw6 : IntKind.wrap .u64 qm = qm := by (have hwx := wr_u64 qm; omega) | have wf6 := wr_u64 qm
 first | have hw7 : IntKind.wrap .u64 qs = qs := by (have hwx := wr_u64 qs; omega) | have wf7 := wr_u64 qs
 first | have hw8 : IntKind.wrap .u64 pp = pp := by (have hwx := wr_u64 pp; omega) | have wf8 := wr_u64 pp
 first | have hw9 : IntKind.wrap .u64 pc = pc := by (have hwx := wr_u64 pc; omega) | have wf9 := wr_u64 pc
 refine ⟨?_, fun h3 => ?_⟩
 refine ?a3; rotate_left
 try simp only [hw9]
 try simp only [hw8]
 try simp only [hw7]
 try simp only [hw6]
 try simp only [hw5]
 try simp only [hw4]
 try simp only [hw3]
 try simp only [hw2]
 try simp only [hw1]
 try simp only [hw0]
 refine ?a4; rotate_left
 case a0 | a2 | a3 =>
  first
  | omega
  | exact hc.1
  | (simp only [ht]; omega)
  | skip
 case a1 | a4 =>
  first
  | exact absurd he (by assumption)
  | exact absurd hc.2.1 (by assumption)
  | (simp only [wd0, wd1, wd2, wd3, wd4, wd5, wd6, wd7, wd8, wd9, wd10, wd11, wd12, wd13, wd14, wd15, rows_tup, ht]
     first | done | rfl)
  | skip
theorem zug_lay : zuc_lay.Good Tryz.prog syG (zuE [] [] [] []) := good_of_walk (Γ := ⟨[zuc_pcheck, zuc_spread, zuc_psum], syG, [], [], []⟩) (ρ := zuE [] [] [] []) sym lay_w rfl (fun _ _ _ _ => (ok_cons (Con.Good.env zug_pcheck _ _ _ _) (ok_cons (Con.Good.env zug_spread _ _ _ _) (ok_cons (Con.Good.env zug_psum _ _ _ _) ok_nil)))) lay_h
def rnums_tree : Tree :=
 (.ret xrzupgwk11_)
abbrev zuc_rnums : Con := ⟨40, [xrzupgwk7_], xrzupgwk3_, xrzupgwk11_, ⟨10, 0, 0, 0⟩, none⟩
theorem rnums_w : walk Tryz.prog 111 ⟨[], syG, [], [], []⟩ [] (.o 35 (.cons (.int .u64) .nil)) zuc_rnums zuc_rnums.n 3000 = some rnums_tree := by kernel_rfl
theorem rnums_h (pe pb pt pr gm gs qm qs pp pc : Int) : Hyp_ zuc_rnums rnums_tree (zuE [pe, pb, pt, pr, gm, gs, qm, qs, pp, pc] [] [] []) := by
 intro hc hty
 simp only [zuc_rnums, Sy.holds, zuE, denV, denI, denB, denL, I2.den, VOp.den, List.getD_cons_zero, List.getD_cons_succ, Cst.den, syso, syse, syio, sybo, B2.ofInts, B2.denI, B2.denB, if_true, Bool.false_eq_true, if_false, Nat.div_one, Nat.mul_one, Nat.add_zero] at hc
 simp only [zuc_rnums, patsTyp, patTyp, patTypL, zuE, denV, denL, List.getD_cons_zero, List.getD_cons_succ, and_true, true_and] at hty
 unfold rnums_tree
 simp only [zuc_rnums, Tree.holds, Sy.holds, zuE, denV, denI, denB, denL, I2.den, VOp.den, List.getD_cons_zero, List.getD_cons_succ, Cst.den, syso, syse, syio, sybo, B2.ofInts, B2.denI, B2.denB, if_true, Bool.false_eq_true, if_false, Nat.div_one, Nat.mul_one, Nat.add_zero]
 done
theorem zug_rnums : zuc_rnums.Good Tryz.prog syG (zuE [] [] [] []) := good_of_walk (Γ := ⟨[], syG, [], [], []⟩) (ρ := zuE [] [] [] []) sym rnums_w rfl (fun _ _ _ _ => ok_nil) rnums_h
end Go.Proofs.YtgondiedehjkhaaGreatDoor
