/-
 Layer 19 by the second engine: pages as blobs.
-/
import Derived.Test.YtgondiedehjkhaaGreatDoorSycpgw
import Derived.Test.YtgondiedehjkhaaGreatDoorZupgw
import Derived.Test.YtgondiedehjkhaaGreatDoorE00pgw
import Derived.Test.YtgondiedehjkhaaGreatDoorNumpgw
namespace Go.Proofs.YtgondiedehjkhaaGreatDoor
open Go.RowKit Go.Extern.Stop Go.Stop Go.Extern Go.Proofs.YtgondiedehjkhaaGreatDoor.Sy
set_option linter.unusedVariables false
set_option linter.unusedSimpArgs false
abbrev xrzypgwk0_ : Tm := (.tup (.cons (.agg (.cons (.int .i64 (.lit 0)) (.cons (.int .i64 (.lit 0)) (.cons (.int .i64 (.lit 0)) (.cons (.int .i64 (.lit 0)) (.cons (.int .u32 (.lit 0)) (.cons (.int .i64 (.lit 0)) (.cons (.int .u32 (.lit 0)) (.cons (.int .i64 (.lit 0)) (.cons (.int .i64 (.lit 0)) (.cons (.int .i64 (.lit 0)) .nil))))))))))) (.cons (.int .i64 (.lit 3)) .nil)))
abbrev xrzypgwk1_ : Tm := (.ofI (.vop (.len 1) (.cons o0_ .nil)))
abbrev xrzypgwk2_ : Tm := (.agg (.cons z0_ (.cons z1_ (.cons z2_ (.cons z3_ (.cons (.int .u32 v4_) (.cons z5_ (.cons (.int .u32 v6_) (.cons z7_ (.cons z8_ (.cons z9_ .nil)))))))))))
abbrev xrzypgwk3_ : Tm := (.ofI (.vop (.sel 1 0) (.cons o0_ (.cons (.int .i64 (.lit 7)) .nil))))
abbrev xrzypgwk4_ : Tm := (.ofI (.vop (.sel 1 0) (.cons o0_ (.cons (.int .i64 (.lit 6)) .nil))))
abbrev xrzypgwk5_ : Tm := (.ofI (.vop (.sel 1 0) (.cons o0_ (.cons (.int .i64 (.lit 5)) .nil))))
abbrev xrzypgwk6_ : Tm := (.ofI (.vop (.sel 1 0) (.cons o0_ (.cons (.int .i64 (.lit 4)) .nil))))
abbrev xrzypgwk7_ : Tm := (wr_ (.ofI (.vop (.sel 1 0) (.cons o0_ (.cons (.int .i64 (.lit 9)) .nil)))))
abbrev xrzypgwk8_ : Tm := (wr_ (.ofI (.vop (.sel 1 0) (.cons o0_ (.cons (.int .i64 (.lit 8)) .nil)))))
abbrev xrzypgwk9_ : Tm := (wr_ (.ofI (.vop (.sel 1 0) (.cons o0_ (.cons (.int .i64 (.lit 3)) .nil)))))
abbrev xrzypgwk10_ : Tm := (wr_ (.ofI (.vop (.sel 1 0) (.cons o0_ (.cons (.int .i64 (.lit 2)) .nil)))))
abbrev xrzypgwk11_ : Tm := (wr_ (.ofI (.vop (.sel 1 0) (.cons o0_ (.cons (.int .i64 (.lit 1)) .nil)))))
abbrev xrzypgwk12_ : Tm := (wr_ (.ofI (.vop (.sel 1 0) (.cons o0_ (.cons (.int .i64 (.lit 0)) .nil)))))
def pkV (l : List Value) : Value := if pgB l = true then slV (wdL l) 1 else .tuple #[]
def itP (X : List UInt8) : Nat → List UInt8 × Bool
 | 0 => (X, false)
 | k + 1 => (getL (itP X k).1 8, getS (itP X k).1 (itP X k).2 8)
theorem pgL_if (l : List Value) : pgL l = if pgB l = true then 0 else 1 := by
 unfold pgL pgE pgB
 split
 · rename_i h; rw [if_pos (decide_eq_true h)]
 · rename_i h; rw [if_neg (fun hx => h (of_decide_eq_true hx))]
theorem pg_or (l : List Value) : (pgB l = false ∧ pgL l = 1) ∨ (pgB l = true ∧ pgL l = 0) := by
 have hl := pgL_if l
 cases h : pgB l
 · rw [h] at hl; exact .inl ⟨rfl, hl⟩
 · rw [h] at hl; exact .inr ⟨rfl, hl⟩
abbrev KU : SK := .cons (.int .u64) .nil
theorem u64_at {l : Value} (ht : typ (.sl KU) l) (hk : okR (Sy.rows l) = true) {k : Nat} (h : k < (Sy.rows l).length) : 0 ≤ ci (Sy.rows l) k ∧ ci (Sy.rows l) k ≤ 18446744073709551615 := by
 obtain ⟨_, n, h1, h2, h3⟩ := ht
 have h2 : (Sy.rows l).length = n * 1 := h2
 have hr : (Sy.rows l).getD (k * 1) Go.undef = .int .u64 (Go.RowKit.intOf ((Sy.rows l).getD (k * 1) Go.undef)) := (h3 k (by omega)).1
 rw [Nat.mul_one] at hr
 have hm : (Sy.rows l).getD k Go.undef ∈ Sy.rows l := by rw [List.getD_eq_getElem?_getD, List.getElem?_eq_getElem h]; exact List.getElem_mem h
 exact bounds_u64 (okR_iff.1 hk _ hm _ _ hr)
def wX (X : List UInt8) (k : Nat) : Int := (getV (itP X k).1 8 : Nat)
def s6 (x : Int) : Int := if x < 9223372036854775808 then x else x - 18446744073709551616
theorem s6_wrap {x : Int} (h0 : 0 ≤ x) (h1 : x ≤ 18446744073709551615) : IntKind.wrap .i64 x = s6 x := by
 rw [IntKind.wrap_i64]; unfold s6; split <;> omega
theorem s6_spec (x : Int) : (s6 x = x ∧ x < 9223372036854775808) ∨ (s6 x = x - 18446744073709551616 ∧ 9223372036854775808 ≤ x) := by
 unfold s6; split <;> omega
def ofP (l : List Value) : Prop := ci l 4 ≤ 4294967295 ∧ ci l 6 ≤ 4294967295 ∧ ci l 5 ≤ 31 ∧ ci l 7 ≤ 31 ∧ pgP (s6 (ci l 0)) (s6 (ci l 1)) (s6 (ci l 2)) (s6 (ci l 3)) (ci l 4) (ci l 5) (ci l 6) (ci l 7) (s6 (ci l 8)) (s6 (ci l 9))
instance (l : List Value) : Decidable (ofP l) := by unfold ofP; infer_instance
def ofE (l : List Value) : Int := if ofP l then 0 else 3
def ofN (l : List Value) (k : Nat) : Int := if ofP l then s6 (ci l k) else 0
theorem tn0 : Int.toNat 0 = 0 := rfl
theorem tn1 : Int.toNat 1 = 1 := rfl
theorem tn2 : Int.toNat 2 = 2 := rfl
theorem tn3 : Int.toNat 3 = 3 := rfl
theorem tn4 : Int.toNat 4 = 4 := rfl
theorem tn5 : Int.toNat 5 = 5 := rfl
theorem tn6 : Int.toNat 6 = 6 := rfl
theorem tn7 : Int.toNat 7 = 7 := rfl
theorem tn8 : Int.toNat 8 = 8 := rfl
theorem tn9 : Int.toNat 9 = 9 := rfl
theorem of_y {l : List Value} (h : ofP l) : ofE l = 0 ∧ ∀ k, ofN l k = s6 (ci l k) := ⟨by unfold ofE; rw [if_pos h], fun k => by unfold ofN; rw [if_pos h]⟩
theorem of_n {l : List Value} (h : ¬ ofP l) : ofE l = 3 ∧ ∀ k, ofN l k = 0 := ⟨by unfold ofE; rw [if_neg h], fun k => by unfold ofN; rw [if_neg h]⟩
theorem w6 {x : Int} (h0 : 0 ≤ x) (h1 : x ≤ 18446744073709551615) (h : x ≤ 4294967295) : s6 x = x := by have := s6_spec x; omega
theorem of_ex {x0 x1 x2 x3 x4 x5 x6 x7 x8 x9 : Int} : ofP [.int .u64 x0, .int .u64 x1, .int .u64 x2, .int .u64 x3, .int .u64 x4, .int .u64 x5, .int .u64 x6, .int .u64 x7, .int .u64 x8, .int .u64 x9] ↔ (x4 ≤ 4294967295 ∧ x6 ≤ 4294967295 ∧ x5 ≤ 31 ∧ x7 ≤ 31 ∧ pgP (s6 x0) (s6 x1) (s6 x2) (s6 x3) x4 x5 x6 x7 (s6 x8) (s6 x9)) := Iff.rfl
theorem pgE_0 {e b t r gm gs pm ps p c : Int} (h : pgE e b t r gm gs pm ps p c = 0) : pgP e b t r gm gs pm ps p c := by
 unfold pgE at h
 split at h
 · assumption
 · exact absurd h (by decide)
def vX (X : List UInt8) : List Value := [.int .u64 (wX X 0), .int .u64 (wX X 1), .int .u64 (wX X 2), .int .u64 (wX X 3), .int .u64 (wX X 4), .int .u64 (wX X 5), .int .u64 (wX X 6), .int .u64 (wX X 7), .int .u64 (wX X 8), .int .u64 (wX X 9)]
abbrev b1 (l : List Value) : List UInt8 := byL (Sy.rows (blV l 1))
def pcE (l : List Value) : Int := if blE l 1 ≠ 0 then blE l 1 else if (b1 l).length = 80 then ofE (vX (b1 l)) else 3
def pcN (l : List Value) (k : Nat) : Int := if pcE l = 0 then ofN (vX (b1 l)) k else 0
theorem num19_any (n : Int) (w : World) (hg : w.cell? ⟨0, 0, none⟩ = some asHandle) : Calls Tryz.prog 14 #[errVal 111 n] w fun e w' => e = .returned (.int .i64 n) ∧ Below w.heap.size w w' := by
 unfold errVal
 split
 · rename_i h; subst h; exact num19_nil _
 · exact num19_err _ _ hg
noncomputable def zyI : Nat → List Value → Int
 | 27, [l] => pcE (rows l)
 | 28, [l, .int _ k] => pcN (rows l) k.toNat
 | 29, [l] => ofE (rows l)
 | 30, [l, .int _ k] => ofN (rows l) k.toNat
 | i, l => zuI i l
noncomputable def zyB : Nat → List Value → Bool
 | i, l => zuB i l
noncomputable def zyV : Nat → List Value → Value
 | 12, [l] => pkV (rows l)
 | i, l => zuV i l
noncomputable abbrev zyE (iv : List Int) (bv : List Bool) (vv : List Value) (sv : List ByteArray) : Env := { iv := iv, bv := bv, vv := vv, sv := sv, fi := zyI, fb := zyB, fv := zyV, et := 111 }
set_option maxHeartbeats 8000000 in
theorem zyup : Agree 27 6 12 (zuE [] [] [] []) (zyE [] [] [] []) := ⟨rfl, (by
   intro f hf
   funext l
   show zyI f l = zuI f l
   unfold zyI
   split <;> first | rfl | omega), (by
   intro f hf
   funext l
   show zyB f l = zuB f l
   unfold zyB
   split <;> first | rfl | omega), (by
   intro f hf
   funext l
   show zyV f l = zuV f l
   unfold zyV
   split <;> first | rfl | omega)⟩
theorem zyi_ofe (l : Value) : zyI 29 [l] = ofE (rows l) := rfl
theorem zyi_ofn (l : Value) (k1 : IntKind) (k : Int) : zyI 30 [l, .int k1 k] = ofN (rows l) k.toNat := rfl
theorem zyb_okr (l : Value) : zyB 0 [l] = okR (rows l) := rfl
theorem zyb_pm (l : Value) : zyB 5 [l] = pgB (rows l) := rfl
def gather_tree : Tree :=
 (.ret (.agg (.cons z0_ (.cons z1_ (.cons z2_ (.cons z3_ (.cons (.int .u32 (.wrap .u32 v4_)) (.cons z5_ (.cons (.int .u32 (.wrap .u32 v6_)) (.cons z7_ (.cons z8_ (.cons z9_ .nil))))))))))))
abbrev zyc_gather : Con := ⟨41, [(.agg (.cons z0_ (.cons z1_ (.cons z2_ (.cons z3_ (.cons z4_ (.cons z5_ (.cons z6_ (.cons z7_ (.cons z8_ (.cons z9_ .nil)))))))))))], (.tt true), (.agg (.cons z0_ (.cons z1_ (.cons z2_ (.cons z3_ (.cons (.int .u32 (.wrap .u32 v4_)) (.cons z5_ (.cons (.int .u32 (.wrap .u32 v6_)) (.cons z7_ (.cons z8_ (.cons z9_ .nil))))))))))), ⟨10, 0, 0, 0⟩, none⟩
theorem gather_w : walk Tryz.prog 111 ⟨[], syG, [], [], []⟩ [] .v zyc_gather zyc_gather.n 3000 = some gather_tree := by kernel_rfl
theorem gather_h (n0 n1 n2 n3 n4 n5 n6 n7 n8 n9 : Int) : Hyp_ zyc_gather gather_tree (zyE [n0, n1, n2, n3, n4, n5, n6, n7, n8, n9] [] [] []) := by
 intro hc hty
 simp only [zyc_gather, Sy.holds, zyE, denV, denI, denB, denL, I2.den, VOp.den, List.getD_cons_zero, List.getD_cons_succ, Cst.den, syso, syse, syio, sybo, B2.ofInts, B2.denI, B2.denB, if_true, Bool.false_eq_true, if_false, Nat.div_one, Nat.mul_one, Nat.add_zero] at hc
 simp only [zyc_gather, patsTyp, patTyp, patTypL, zyE, denV, denL, List.getD_cons_zero, List.getD_cons_succ, and_true, true_and] at hty
 unfold gather_tree
 simp only [zyc_gather, Tree.holds, Sy.holds, zyE, denV, denI, denB, denL, I2.den, VOp.den, List.getD_cons_zero, List.getD_cons_succ, Cst.den, syso, syse, syio, sybo, B2.ofInts, B2.denI, B2.denB, if_true, Bool.false_eq_true, if_false, Nat.div_one, Nat.mul_one, Nat.add_zero]
 done
theorem zyg_gather : zyc_gather.Good Tryz.prog syG (zyE [] [] [] []) := good_of_walk (Γ := ⟨[], syG, [], [], []⟩) (ρ := zyE [] [] [] []) sym gather_w rfl (fun _ _ _ _ => ok_nil) gather_h
def rof_tree : Tree :=
 (.need (lt_ (.lit 4) xrzypgwk1_)
 (.br (lt_ (.lit 4294967295) xrzypgwk6_)
 (.ret xrzypgwk0_)
 (.need (lt_ (.lit 6) xrzypgwk1_)
 (.br (lt_ (.lit 4294967295) xrzypgwk4_)
 (.ret xrzypgwk0_)
 (.need (lt_ (.lit 5) xrzypgwk1_)
 (.br (lt_ (.lit 31) xrzypgwk5_)
 (.ret xrzypgwk0_)
 (.need (lt_ (.lit 7) xrzypgwk1_)
 (.br (lt_ (.lit 31) xrzypgwk3_)
 (.ret xrzypgwk0_)
 (.need (lt_ (.lit 0) xrzypgwk1_)
 (.need (lt_ (.lit 1) xrzypgwk1_)
 (.need (lt_ (.lit 2) xrzypgwk1_)
 (.need (lt_ (.lit 3) xrzypgwk1_)
 (.need (lt_ (.lit 4) xrzypgwk1_)
 (.need (lt_ (.lit 5) xrzypgwk1_)
 (.need (lt_ (.lit 6) xrzypgwk1_)
 (.need (lt_ (.lit 7) xrzypgwk1_)
 (.need (lt_ (.lit 8) xrzypgwk1_)
 (.need (lt_ (.lit 9) xrzypgwk1_)
 (.need (an_ (an_ (le_ lm_ xrzypgwk12_) (le_ xrzypgwk12_ lM_)) (an_ (an_ (le_ lm_ xrzypgwk11_) (le_ xrzypgwk11_ lM_)) (an_ (an_ (le_ lm_ xrzypgwk10_) (le_ xrzypgwk10_ lM_)) (an_ (an_ (le_ lm_ xrzypgwk9_) (le_ xrzypgwk9_ lM_)) (an_ (an_ (le_ (.lit 0) (.wrap .u32 xrzypgwk6_)) (le_ (.wrap .u32 xrzypgwk6_) (.lit 4294967295))) (an_ (an_ (le_ lm_ (wr_ xrzypgwk5_)) (le_ (wr_ xrzypgwk5_) lM_)) (an_ (an_ (le_ (.lit 0) (.wrap .u32 xrzypgwk4_)) (le_ (.wrap .u32 xrzypgwk4_) (.lit 4294967295))) (an_ (an_ (le_ lm_ (wr_ xrzypgwk3_)) (le_ (wr_ xrzypgwk3_) lM_)) (an_ (an_ (le_ lm_ xrzypgwk8_) (le_ xrzypgwk8_ lM_)) (an_ (le_ lm_ xrzypgwk7_) (le_ xrzypgwk7_ lM_)))))))))))
 (.br (.not (.bapp 5 (.cons (.tup (.cons (.int .i64 xrzypgwk12_) (.cons (.int .i64 xrzypgwk11_) (.cons (.int .i64 xrzypgwk10_) (.cons (.int .i64 xrzypgwk9_) (.cons (.int .u32 (.wrap .u32 xrzypgwk6_)) (.cons (.int .i64 (wr_ xrzypgwk5_)) (.cons (.int .u32 (.wrap .u32 xrzypgwk4_)) (.cons (.int .i64 (wr_ xrzypgwk3_)) (.cons (.int .i64 xrzypgwk8_) (.cons (.int .i64 xrzypgwk7_) .nil))))))))))) .nil)))
 (.ret xrzypgwk0_)
 (.ret (.tup (.cons (.agg (.cons (.int .i64 xrzypgwk12_) (.cons (.int .i64 xrzypgwk11_) (.cons (.int .i64 xrzypgwk10_) (.cons (.int .i64 xrzypgwk9_) (.cons (.int .u32 (.wrap .u32 xrzypgwk6_)) (.cons (.int .i64 (wr_ xrzypgwk5_)) (.cons (.int .u32 (.wrap .u32 xrzypgwk4_)) (.cons (.int .i64 (wr_ xrzypgwk3_)) (.cons (.int .i64 xrzypgwk8_) (.cons (.int .i64 xrzypgwk7_) .nil))))))))))) (.cons (.int .i64 (.lit 0)) .nil))))))))))))))))))))))))
abbrev zyc_rof : Con := ⟨42, [(.hs .no (.cons (.int .u64) .nil) o0_)], (an_ (.bapp 0 (.cons o0_ .nil)) (eq_ xrzypgwk1_ (.lit 10))), (.tup (.cons (.agg (.cons (.int .i64 (.iapp 30 (.cons o0_ (.cons (.int .i64 (.lit 0)) .nil)))) (.cons (.int .i64 (.iapp 30 (.cons o0_ (.cons (.int .i64 (.lit 1)) .nil)))) (.cons (.int .i64 (.iapp 30 (.cons o0_ (.cons (.int .i64 (.lit 2)) .nil)))) (.cons (.int .i64 (.iapp 30 (.cons o0_ (.cons (.int .i64 (.lit 3)) .nil)))) (.cons (.int .u32 (.iapp 30 (.cons o0_ (.cons (.int .i64 (.lit 4)) .nil)))) (.cons (.int .i64 (.iapp 30 (.cons o0_ (.cons (.int .i64 (.lit 5)) .nil)))) (.cons (.int .u32 (.iapp 30 (.cons o0_ (.cons (.int .i64 (.lit 6)) .nil)))) (.cons (.int .i64 (.iapp 30 (.cons o0_ (.cons (.int .i64 (.lit 7)) .nil)))) (.cons (.int .i64 (.iapp 30 (.cons o0_ (.cons (.int .i64 (.lit 8)) .nil)))) (.cons (.int .i64 (.iapp 30 (.cons o0_ (.cons (.int .i64 (.lit 9)) .nil)))) .nil))))))))))) (.cons (.int .i64 (.iapp 29 (.cons o0_ .nil))) .nil))), ⟨0, 0, 1, 0⟩, none⟩
theorem rof_w : walk Tryz.prog 111 ⟨[zuc_pmay], syG, [], [], []⟩ [] .v zyc_rof zyc_rof.n 3000 = some rof_tree := by kernel_rfl
set_option maxHeartbeats 8000000 in
theorem rof_h (l : Value) : Hyp_ zyc_rof rof_tree (zyE [] [] [l] []) := by
 intro hc hty
 simp only [zyc_rof, Sy.holds, zyE, denV, denI, denB, denL, I2.den, VOp.den, List.getD_cons_zero, List.getD_cons_succ, Cst.den, syso, syse, syio, sybo, zyb_okr, B2.ofInts, B2.denI, B2.denB, if_true, Bool.false_eq_true, if_false, Nat.div_one, Nat.mul_one, Nat.add_zero] at hc
 simp only [zyc_rof, patsTyp, patTyp, patTypL, zyE, denV, denL, List.getD_cons_zero, List.getD_cons_succ, and_true, true_and] at hty
 have hL_l : typ (.sl (.cons (.int .u64) .nil)) l := by first | exact hty | exact hty.1 | exact hty.2 | exact hty.1.1 | exact hty.1.2 | exact hty.2.1 | exact hty.2.2 | exact hty.2.2.1 | exact hty.2.2.2
 have hN_l := typ_len (n := 1) hL_l rfl (by omega)
 simp only [Nat.div_one, Nat.mul_one] at hN_l
 unfold rof_tree
 simp only [zyc_rof, Tree.holds, Sy.holds, zyE, denV, denI, denB, denL, I2.den, VOp.den, List.getD_cons_zero, List.getD_cons_succ, Cst.den, syso, syse, syio, sybo, zyi_ofe, zyi_ofn, zyb_pm, B2.ofInts, B2.denI, B2.denB, if_true, Bool.false_eq_true, if_false, Nat.div_one, Nat.mul_one, Nat.add_zero]
 obtain ⟨hk, hn⟩ := hc
 have u0 := u64_at hL_l hk (k := 0) (by omega)
 have u1 := u64_at hL_l hk (k := 1) (by omega)
 have u2 := u64_at hL_l hk (k := 2) (by omega)
 have u3 := u64_at hL_l hk (k := 3) (by omega)
 have u4 := u64_at hL_l hk (k := 4) (by omega)
 have u5 := u64_at hL_l hk (k := 5) (by omega)
 have u6 := u64_at hL_l hk (k := 6) (by omega)
 have u7 := u64_at hL_l hk (k := 7) (by omega)
 have u8 := u64_at hL_l hk (k := 8) (by omega)
 have u9 := u64_at hL_l hk (k := 9) (by omega)
 have c0 : Go.RowKit.intOf ((Sy.rows l).getD (Int.toNat 0) Go.undef) = ci (Sy.rows l) 0 := rfl
 have c1 : Go.RowKit.intOf ((Sy.rows l).getD (Int.toNat 1) Go.undef) = ci (Sy.rows l) 1 := rfl
 have c2 : Go.RowKit.intOf ((Sy.rows l).getD (Int.toNat 2) Go.undef) = ci (Sy.rows l) 2 := rfl
 have c3 : Go.RowKit.intOf ((Sy.rows l).getD (Int.toNat 3) Go.undef) = ci (Sy.rows l) 3 := rfl
 have c4 : Go.RowKit.intOf ((Sy.rows l).getD (Int.toNat 4) Go.undef) = ci (Sy.rows l) 4 := rfl
 have c5 : Go.RowKit.intOf ((Sy.rows l).getD (Int.toNat 5) Go.undef) = ci (Sy.rows l) 5 := rfl
 have c6 : Go.RowKit.intOf ((Sy.rows l).getD (Int.toNat 6) Go.undef) = ci (Sy.rows l) 6 := rfl
 have c7 : Go.RowKit.intOf ((Sy.rows l).getD (Int.toNat 7) Go.undef) = ci (Sy.rows l) 7 := rfl
 have c8 : Go.RowKit.intOf ((Sy.rows l).getD (Int.toNat 8) Go.undef) = ci (Sy.rows l) 8 := rfl
 have c9 : Go.RowKit.intOf ((Sy.rows l).getD (Int.toNat 9) Go.undef) = ci (Sy.rows l) 9 := rfl
 simp only [c0, c1, c2, c3, c4, c5, c6, c7, c8, c9]
 have w0 := s6_wrap u0.1 u0.2
 have w1 := s6_wrap u1.1 u1.2
 have w2 := s6_wrap u2.1 u2.2
 have w3 := s6_wrap u3.1 u3.2
 have w5 := s6_wrap u5.1 u5.2
 have w7 := s6_wrap u7.1 u7.2
 have w8 := s6_wrap u8.1 u8.2
 have w9 := s6_wrap u9.1 u9.2
 simp only [w0, w1, w2, w3, w5, w7, w8, w9]
 have v4 := wr_u32 (ci (Sy.rows l) 4)
 have v6 := wr_u32 (ci (Sy.rows l) 6)
 have x0 := s6_spec (ci (Sy.rows l) 0)
 have x1 := s6_spec (ci (Sy.rows l) 1)
 have x2 := s6_spec (ci (Sy.rows l) 2)
 have x3 := s6_spec (ci (Sy.rows l) 3)
 have x4 := s6_spec (ci (Sy.rows l) 4)
 have x5 := s6_spec (ci (Sy.rows l) 5)
 have x6 := s6_spec (ci (Sy.rows l) 6)
 have x7 := s6_spec (ci (Sy.rows l) 7)
 have x8 := s6_spec (ci (Sy.rows l) 8)
 have x9 := s6_spec (ci (Sy.rows l) 9)
 skip
 refine ⟨?_, fun h0 => ?_⟩
 ·
  omega
 refine ⟨fun h1 => ?_, fun h1 => ?_⟩
 refine ?a0; rotate_left
 refine ⟨?_, fun h2 => ?_⟩
 ·
  omega
 refine ⟨fun h3 => ?_, fun h3 => ?_⟩
 refine ?a1; rotate_left
 refine ⟨?_, fun h4 => ?_⟩
 ·
  omega
 refine ⟨fun h5 => ?_, fun h5 => ?_⟩
 refine ?a2; rotate_left
 refine ⟨?_, fun h6 => ?_⟩
 ·
  omega
 refine ⟨fun h7 => ?_, fun h7 => ?_⟩
 refine ?a3; rotate_left
 refine ⟨?_, fun h8 => ?_⟩
 ·
  omega
 refine ⟨?_, fun h9 => ?_⟩
 ·
  omega
 refine ⟨?_, fun h10 => ?_⟩
 ·
  omega
 refine ⟨?_, fun h11 => ?_⟩
 ·
  omega
 refine ⟨?_, fun h12 => ?_⟩
 ·
  omega
 refine ⟨?_, fun h13 => ?_⟩
 ·
  omega
 refine ⟨?_, fun h14 => ?_⟩
 ·
  omega
 refine ⟨?_, fun h15 => ?_⟩
 ·
  omega
 refine ⟨?_, fun h16 => ?_⟩
 ·
  omega
 refine ⟨?_, fun h17 => ?_⟩
 ·
  omega
 refine ⟨?_, fun h18 => ?_⟩
 ·
  omega
 refine ⟨fun h19 => ?_, fun h19 => ?_⟩
 refine ?a4; rotate_left
 refine ?a5; rotate_left
 case a0 | a1 | a2 | a3 | a4 | a5 =>
  first
  | (rw [(of_n (l := Sy.rows l) (fun h => by obtain ⟨z1, z2, z3, z4, _⟩ := h; omega)).1]
     simp only [(of_n (l := Sy.rows l) (fun h => by obtain ⟨z1, z2, z3, z4, _⟩ := h; omega)).2]
     done)
  | (have e4 : IntKind.wrap .u32 (ci (Sy.rows l) 4) = ci (Sy.rows l) 4 := by omega
     have e6 : IntKind.wrap .u32 (ci (Sy.rows l) 6) = ci (Sy.rows l) 6 := by omega
     have e5 : s6 (ci (Sy.rows l) 5) = ci (Sy.rows l) 5 := by omega
     have e7 : s6 (ci (Sy.rows l) 7) = ci (Sy.rows l) 7 := by omega
     have y4 : s6 (ci (Sy.rows l) 4) = ci (Sy.rows l) 4 := by omega
     have y6 : s6 (ci (Sy.rows l) 6) = ci (Sy.rows l) 6 := by omega
     by_cases hP : ofP (Sy.rows l)
     · have hp := hP.2.2.2.2
       obtain ⟨h1, h2⟩ := of_y hP
       first
       | (rw [h1]; simp only [h2, tn0, tn1, tn2, tn3, tn4, tn5, tn6, tn7, tn8, tn9, e4, e6, e5, e7, y4, y6]; done)
       | (rw [h1]; simp only [h2, tn0, tn1, tn2, tn3, tn4, tn5, tn6, tn7, tn8, tn9, e4, e6, e5, e7, y4, y6]; rfl)
       | (simp only [e4, e5, e6, e7] at *; exact absurd (decide_eq_true hp) (by assumption))
     · have hp : ¬ pgP (s6 (ci (Sy.rows l) 0)) (s6 (ci (Sy.rows l) 1)) (s6 (ci (Sy.rows l) 2)) (s6 (ci (Sy.rows l) 3)) (ci (Sy.rows l) 4) (ci (Sy.rows l) 5) (ci (Sy.rows l) 6) (ci (Sy.rows l) 7) (s6 (ci (Sy.rows l) 8)) (s6 (ci (Sy.rows l) 9)) := fun h => hP ⟨by omega, by omega, by omega, by omega, h⟩
       obtain ⟨h1, h2⟩ := of_n hP
       first
       | (rw [h1]; simp only [h2]; done)
       | (rw [h1]; simp only [h2]; rfl)
       | (simp only [e4, e5, e6, e7] at *; exact absurd (of_decide_eq_true (by assumption)) hp)
       | (simp only [e4, e5, e6, e7] at *; exact absurd (of_decide_eq_true (Decidable.of_not_not (by assumption))) hp))
  | skip
theorem zyg_rof : zyc_rof.Good Tryz.prog syG (zyE [] [] [] []) := good_of_walk (Γ := ⟨[zuc_pmay], syG, [], [], []⟩) (ρ := zyE [] [] [] []) sym rof_w rfl (fun _ _ _ _ => (ok_cons (Con.Good.env (Con.Good.up zug_pmay zyup rfl) _ _ _ _) ok_nil)) rof_h
abbrev zyc_num : Con := ⟨14, [(.err v0_)], (.tt true), z0_, ⟨1, 0, 0, 0⟩, none⟩
theorem zyg_num : zyc_num.Good Tryz.prog syG (zyE [] [] [] []) := good_flat rfl rfl rfl (by
 intro n hc β ok w hG
 have hc' := hc
 simp only [Tree.holds, Sy.holds, AllN, Env.more, zyE, List.cons_append, List.nil_append, List.append_nil, denV, denI, denB, denL, I2.den, VOp.den, List.getD_cons_zero, List.getD_cons_succ, Cst.den, syso, syse, syio, sybo, List.map_nil, List.map_cons, B2.ofInts, B2.denI, B2.denB, if_true, Bool.false_eq_true, if_false, Nat.div_one, Nat.mul_one, Nat.add_zero, holds] at hc
 exact num19_any n w (hG _ (List.mem_singleton.2 rfl)).2.2)
def give19_tree : Tree :=
 (.ret xrzypgwk2_)
abbrev zyc_give19 : Con := ⟨10, [xrzypgwk2_], (.tt true), xrzypgwk2_, ⟨10, 0, 0, 0⟩, none⟩
theorem give19_w : walk Tryz.prog 111 ⟨[], syG, [], [], []⟩ [] .v zyc_give19 zyc_give19.n 3000 = some give19_tree := by kernel_rfl
theorem give19_h (pe pb pt pr gm gs qm qs pp pc : Int) : Hyp_ zyc_give19 give19_tree (zyE [pe, pb, pt, pr, gm, gs, qm, qs, pp, pc] [] [] []) := by
 intro hc hty
 simp only [zyc_give19, Sy.holds, zyE, denV, denI, denB, denL, I2.den, VOp.den, List.getD_cons_zero, List.getD_cons_succ, Cst.den, syso, syse, syio, sybo, B2.ofInts, B2.denI, B2.denB, if_true, Bool.false_eq_true, if_false, Nat.div_one, Nat.mul_one, Nat.add_zero] at hc
 simp only [zyc_give19, patsTyp, patTyp, patTypL, zyE, denV, denL, List.getD_cons_zero, List.getD_cons_succ, and_true, true_and] at hty
 unfold give19_tree
 simp only [zyc_give19, Tree.holds, Sy.holds, zyE, denV, denI, denB, denL, I2.den, VOp.den, List.getD_cons_zero, List.getD_cons_succ, Cst.den, syso, syse, syio, sybo, B2.ofInts, B2.denI, B2.denB, if_true, Bool.false_eq_true, if_false, Nat.div_one, Nat.mul_one, Nat.add_zero]
 all_goals first | omega | rfl | (simp only [Value.tuple.injEq, Value.agg.injEq, Value.int.injEq, Value.bool.injEq, Array.mk.injEq, List.cons.injEq, true_and, and_true]; omega) | (refine congrArg Value.bool (Bool.eq_iff_iff.2 ?_); simp only [beq_iff_eq, decide_eq_true_eq, true_iff, false_iff, Bool.false_eq_true, Bool.not_eq_true', Bool.and_eq_true, Bool.or_eq_true, decide_eq_false_iff_not]; omega)
theorem zyg_give19 : zyc_give19.Good Tryz.prog syG (zyE [] [] [] []) := good_of_walk (Γ := ⟨[], syG, [], [], []⟩) (ρ := zyE [] [] [] []) sym give19_w rfl (fun _ _ _ _ => ok_nil) give19_h
end Go.Proofs.YtgondiedehjkhaaGreatDoor
