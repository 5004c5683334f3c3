/-
 Layer 23 by the second engine: words, turns, rounds.
-/
import Derived.Test.YtgondiedehjkhaaGreatDoorSycpgw
import Derived.Test.YtgondiedehjkhaaGreatDoorZ6bpgw
import Derived.Test.YtgondiedehjkhaaGreatDoorSpmpgw
namespace Go.Proofs.YtgondiedehjkhaaGreatDoor
open Go.RowKit Go.Extern.Stop Go.Stop Go.Extern Go.Proofs.YtgondiedehjkhaaGreatDoor.Sy
set_option linter.unusedVariables false
set_option linter.unusedSimpArgs false
abbrev xrzppgwk2_ : Tm := (.vop .cat (.cons (.vop .cat (.cons o0_ (.cons (.tup (.cons (.int .u8 (.wrap .u8 (.i2 .rem v0_ (.lit 256)))) .nil)) .nil))) (.cons (.tup (.cons (.int .u8 (.wrap .u8 (.i2 .rem (.wrap .u64 (.i2 .quo v0_ (.lit 256))) (.lit 256)))) .nil)) .nil)))
abbrev xrzppgwk0_ : Tm := (.vop .cat (.cons (.vop .cat (.cons (.vop .cat (.cons xrzppgwk2_ (.cons (.tup (.cons (.int .u8 (.wrap .u8 (.i2 .rem (.wrap .u64 (.i2 .quo (.wrap .u64 (.i2 .quo v0_ (.lit 256))) (.lit 256))) (.lit 256)))) .nil)) .nil))) (.cons (.tup (.cons (.int .u8 (.wrap .u8 (.i2 .rem (.wrap .u64 (.i2 .quo (.wrap .u64 (.i2 .quo (.wrap .u64 (.i2 .quo v0_ (.lit 256))) (.lit 256))) (.lit 256))) (.lit 256)))) .nil)) .nil))) (.cons (.tup (.cons (.int .u8 (.wrap .u8 (.i2 .rem (.wrap .u64 (.i2 .quo (.wrap .u64 (.i2 .quo (.wrap .u64 (.i2 .quo (.wrap .u64 (.i2 .quo v0_ (.lit 256))) (.lit 256))) (.lit 256))) (.lit 256))) (.lit 256)))) .nil)) .nil)))
abbrev xrzppgwk1_ : Tm := (.wrap .u64 (.i2 .quo (.wrap .u64 (.i2 .quo (.wrap .u64 (.i2 .quo (.wrap .u64 (.i2 .quo (.wrap .u64 (.i2 .quo v0_ (.lit 256))) (.lit 256))) (.lit 256))) (.lit 256))) (.lit 256)))
abbrev xrzppgwk3_ : Tm := (.vop .cat (.cons (.vop .cat (.cons xrzppgwk0_ (.cons (.tup (.cons (.int .u8 (.wrap .u8 (.i2 .rem xrzppgwk1_ (.lit 256)))) .nil)) .nil))) (.cons (.tup (.cons (.int .u8 (.wrap .u8 (.i2 .rem (.wrap .u64 (.i2 .quo xrzppgwk1_ (.lit 256))) (.lit 256)))) .nil)) .nil)))
noncomputable def eqV (x y : Value) : Bool := @decide (x = y) (Classical.propDecidable _)
theorem rows_nil : Sy.rows (Value.tuple #[]) = [] := rfl
theorem put_rows (l : List Value) (v : Int) (n : Nat) : Sy.rows (putV l v n) = l ++ numB v n := rfl
theorem t8 : Int.toNat 8 = 8 := rfl
theorem t1 : Int.toNat 1 = 1 := rfl
noncomputable def zpI : Nat → List Value → Int
 | 10, [.int _ x, .int _ k] => rlI k.toNat x
 | 11, [.int _ a, .int _ b, .int _ c, .int _ d, .int _ k] => spC (rndS ⟨a, b, c, d⟩) k.toNat
 | 12, [.int _ a, .int _ b, .int _ c, .int _ d, .int _ w, .int _ k] => spC (tkS ⟨a, b, c, d⟩ w) k.toNat
 | 13, [.int _ a, .int _ b, .int _ c, .int _ d, .int _ n, .int _ k] => spC (rndN ⟨a, b, c, d⟩ n.toNat) k.toNat
 | 14, [k, l, .int _ n, .int _ j] => spC (stN (byL (rows k)) (padL (byL (rows l))) n.toNat) j.toNat
 | 15, [k, l, .int _ n, .int _ j] => spC (rndN (preF (byL (rows k)) (byL (rows l))) n.toNat) j.toNat
 | 16, [k, l] => sipS (byL (rows k)) (byL (rows l))
 | 17, [k, .int _ p, .int _ n] => numS (byL (rows k)) p n
 | 18, [k, .int _ u, .int _ j] => Go.RowKit.intOf ((drvL (byL (rows k)) u).getD j.toNat Go.undef)
 | i, l => zb6I i l
noncomputable def zpB : Nat → List Value → Bool
 | 3, [x, y] => eqV x y
 | i, l => zb6B i l
noncomputable def zpV : Nat → List Value → Value
 | 9, [l] => Value.tuple ((padL (byL (rows l))).map bV).toArray
 | 10, [l, .int _ n] => Value.tuple (rows l ++ List.replicate n.toNat (Value.int .u8 0)).toArray
 | 11, [l, .int _ a, .int _ n] => Value.tuple (((rows l).take (8 * a.toNat)).drop (8 * n.toNat)).toArray
 | i, l => zb6V i l
noncomputable abbrev zpE (iv : List Int) (bv : List Bool) (vv : List Value) (sv : List ByteArray) : Env := { iv := iv, bv := bv, vv := vv, sv := sv, fi := zpI, fb := zpB, fv := zpV, et := 111 }
set_option maxHeartbeats 8000000 in
theorem zpup : Agree 10 3 9 (zb6E [] [] [] []) (zpE [] [] [] []) := ⟨rfl, (by
   intro f hf
   funext l
   show zpI f l = zb6I f l
   unfold zpI
   split <;> first | rfl | omega), (by
   intro f hf
   funext l
   show zpB f l = zb6B f l
   unfold zpB
   split <;> first | rfl | omega), (by
   intro f hf
   funext l
   show zpV f l = zb6V f l
   unfold zpV
   split <;> first | rfl | omega)⟩
theorem zpv_p8 (l : Value) (k1 : IntKind) (v : Int) : zpV 6 [l, .int k1 v] = putV (rows l) v 8 := rfl
def i64p_tree : Tree :=
 (.need (an_ (le_ (.ofI (.vop (.len 1) (.cons o0_ .nil))) (.lit 140737488355000)) (an_ (le_ (.lit 0) (.wrap .u64 v0_)) (le_ (.wrap .u64 v0_) (.lit 18446744073709551615))))
 (.ret (.hs (.new 5) (.cons (.int .u8) .nil) (.vapp 6 (.cons o0_ (.cons (.int .i64 (.wrap .u64 v0_)) .nil))))))
abbrev zpc_i64p : Con := ⟨44, [(.hs .no (.cons (.int .u8) .nil) o0_), z0_], (an_ (le_ (.ofI (.vop (.len 1) (.cons o0_ .nil))) (.lit 70368744177664)) (an_ (le_ lm_ v0_) (le_ v0_ lM_))), (.hs (.new 5) (.cons (.int .u8) .nil) (.vapp 6 (.cons o0_ (.cons z0_ .nil)))), ⟨1, 0, 1, 0⟩, none⟩
theorem i64p_w : walk Tryz.prog 111 ⟨[z6c_num8], syG, [], [], []⟩ [] (.o 5 (.cons (.int .u8) .nil)) zpc_i64p zpc_i64p.n 3000 = some i64p_tree := by kernel_rfl
theorem i64p_h (v : Int) (l : Value) : Hyp_ zpc_i64p i64p_tree (zpE [v] [] [l] []) := by
 intro hc hty
 simp only [zpc_i64p, Sy.holds, zpE, denV, denI, denB, denL, I2.den, VOp.den, List.getD_cons_zero, List.getD_cons_succ, Cst.den, syso, syse, syio, sybo, B2.ofInts, B2.denI, B2.denB, if_true, Bool.false_eq_true, if_false, Nat.div_one, Nat.mul_one, Nat.add_zero] at hc
 simp only [zpc_i64p, patsTyp, patTyp, patTypL, zpE, denV, denL, List.getD_cons_zero, List.getD_cons_succ, and_true, true_and] at hty
 have hL_l : typ (.sl (.cons (.int .u8) .nil)) l := by first | exact hty | exact hty.1 | exact hty.2 | exact hty.1.1 | exact hty.1.2 | exact hty.2.1 | exact hty.2.2 | exact hty.2.2.1 | exact hty.2.2.2
 have hN_l := typ_len (n := 1) hL_l rfl (by omega)
 simp only [Nat.div_one, Nat.mul_one] at hN_l
 unfold i64p_tree
 simp only [zpc_i64p, Tree.holds, Sy.holds, zpE, denV, denI, denB, denL, I2.den, VOp.den, List.getD_cons_zero, List.getD_cons_succ, Cst.den, syso, syse, syio, sybo, zpv_p8, B2.ofInts, B2.denI, B2.denB, if_true, Bool.false_eq_true, if_false, Nat.div_one, Nat.mul_one, Nat.add_zero]
 have wf0 := wr_u64 v
 refine ⟨?_, fun h0 => ?_⟩
 ·
  first
  | omega
  | (have := wr_u64 v
     omega)
 ·
  unfold putV
  rw [numB_u64 (by omega) (by omega)]
theorem zpg_i64p : zpc_i64p.Good Tryz.prog syG (zpE [] [] [] []) := good_of_walk (Γ := ⟨[z6c_num8], syG, [], [], []⟩) (ρ := zpE [] [] [] []) sym i64p_w rfl (fun _ _ _ _ => (ok_cons (Con.Good.env (Con.Good.up (Con.Good.up z6g_num8 zb6up rfl) zpup rfl) _ _ _ _) ok_nil)) i64p_h
def rput8_tree : Tree :=
 (.need (le_ (ad_ (.lit 0) (.ofI (.vop (.len 1) (.cons o0_ .nil)))) (.lit 140737488355328))
 (.need (le_ (ad_ (.ofI (.vop (.len 1) (.cons o0_ .nil))) (.lit 1)) (.lit 140737488355328))
 (.need (le_ (ad_ (.ofI (.vop (.len 1) (.cons (.vop .cat (.cons o0_ (.cons (.tup (.cons (.int .u8 (.wrap .u8 (.i2 .rem v0_ (.lit 256)))) .nil)) .nil))) .nil))) (.lit 1)) (.lit 140737488355328))
 (.need (le_ (ad_ (.ofI (.vop (.len 1) (.cons xrzppgwk2_ .nil))) (.lit 1)) (.lit 140737488355328))
 (.need (le_ (ad_ (.ofI (.vop (.len 1) (.cons (.vop .cat (.cons xrzppgwk2_ (.cons (.tup (.cons (.int .u8 (.wrap .u8 (.i2 .rem (.wrap .u64 (.i2 .quo (.wrap .u64 (.i2 .quo v0_ (.lit 256))) (.lit 256))) (.lit 256)))) .nil)) .nil))) .nil))) (.lit 1)) (.lit 140737488355328))
 (.need (le_ (ad_ (.ofI (.vop (.len 1) (.cons (.vop .cat (.cons (.vop .cat (.cons xrzppgwk2_ (.cons (.tup (.cons (.int .u8 (.wrap .u8 (.i2 .rem (.wrap .u64 (.i2 .quo (.wrap .u64 (.i2 .quo v0_ (.lit 256))) (.lit 256))) (.lit 256)))) .nil)) .nil))) (.cons (.tup (.cons (.int .u8 (.wrap .u8 (.i2 .rem (.wrap .u64 (.i2 .quo (.wrap .u64 (.i2 .quo (.wrap .u64 (.i2 .quo v0_ (.lit 256))) (.lit 256))) (.lit 256))) (.lit 256)))) .nil)) .nil))) .nil))) (.lit 1)) (.lit 140737488355328))
 (.need (le_ (ad_ (.ofI (.vop (.len 1) (.cons xrzppgwk0_ .nil))) (.lit 1)) (.lit 140737488355328))
 (.need (le_ (ad_ (.ofI (.vop (.len 1) (.cons (.vop .cat (.cons xrzppgwk0_ (.cons (.tup (.cons (.int .u8 (.wrap .u8 (.i2 .rem xrzppgwk1_ (.lit 256)))) .nil)) .nil))) .nil))) (.lit 1)) (.lit 140737488355328))
 (.need (le_ (ad_ (.ofI (.vop (.len 1) (.cons xrzppgwk3_ .nil))) (.lit 1)) (.lit 140737488355328))
 (.ret (.hs (.new 5) (.cons (.int .u8) .nil) (.vop .cat (.cons xrzppgwk3_ (.cons (.tup (.cons (.int .u8 (.wrap .u8 (.i2 .rem (.wrap .u64 (.i2 .quo (.wrap .u64 (.i2 .quo xrzppgwk1_ (.lit 256))) (.lit 256))) (.lit 256)))) .nil)) .nil))))))))))))))
abbrev zpc_rput8 : Con := ⟨46, [(.hs .no (.cons (.int .u8) .nil) o0_), (.int .u64 v0_), (.int .i64 (.lit 8))], (an_ (le_ (.ofI (.vop (.len 1) (.cons o0_ .nil))) (.lit 70368744177664)) (an_ (le_ (.lit 0) v0_) (le_ v0_ (.lit 18446744073709551615)))), (.hs (.new 5) (.cons (.int .u8) .nil) (.vapp 6 (.cons o0_ (.cons (.int .u64 v0_) .nil)))), ⟨1, 0, 1, 0⟩, none⟩
theorem rput8_w : walk Tryz.prog 111 ⟨[], syG, [], [], []⟩ [] (.o 5 (.cons (.int .u8) .nil)) zpc_rput8 zpc_rput8.n 3000 = some rput8_tree := by kernel_rfl
theorem rput8_h (v : Int) (l : Value) : Hyp_ zpc_rput8 rput8_tree (zpE [v] [] [l] []) := by
 intro hc hty
 simp only [zpc_rput8, Sy.holds, zpE, denV, denI, denB, denL, I2.den, VOp.den, List.getD_cons_zero, List.getD_cons_succ, Cst.den, syso, syse, syio, sybo, B2.ofInts, B2.denI, B2.denB, if_true, Bool.false_eq_true, if_false, Nat.div_one, Nat.mul_one, Nat.add_zero] at hc
 simp only [zpc_rput8, patsTyp, patTyp, patTypL, zpE, denV, denL, List.getD_cons_zero, List.getD_cons_succ, and_true, true_and] at hty
 have hL_l : typ (.sl (.cons (.int .u8) .nil)) l := by first | exact hty | exact hty.1 | exact hty.2 | exact hty.1.1 | exact hty.1.2 | exact hty.2.1 | exact hty.2.2 | exact hty.2.2.1 | exact hty.2.2.2
 have hN_l := typ_len (n := 1) hL_l rfl (by omega)
 simp only [Nat.div_one, Nat.mul_one] at hN_l
 unfold rput8_tree
 simp only [zpc_rput8, Tree.holds, Sy.holds, zpE, denV, denI, denB, denL, I2.den, VOp.den, List.getD_cons_zero, List.getD_cons_succ, Cst.den, syso, syse, syio, sybo, zpv_p8, B2.ofInts, B2.denI, B2.denB, if_true, Bool.false_eq_true, if_false, Nat.div_one, Nat.mul_one, Nat.add_zero]
 refine ⟨?_, fun h0 => ?_⟩
 refine ?a0; rotate_left
 refine ⟨?_, fun h1 => ?_⟩
 refine ?a1; rotate_left
 refine ⟨?_, fun h2 => ?_⟩
 refine ?a2; rotate_left
 refine ⟨?_, fun h3 => ?_⟩
 refine ?a3; rotate_left
 refine ⟨?_, fun h4 => ?_⟩
 refine ?a4; rotate_left
 refine ⟨?_, fun h5 => ?_⟩
 refine ?a5; rotate_left
 refine ⟨?_, fun h6 => ?_⟩
 refine ?a6; rotate_left
 refine ⟨?_, fun h7 => ?_⟩
 refine ?a7; rotate_left
 refine ⟨?_, fun h8 => ?_⟩
 refine ?a8; rotate_left
 ·
  simp only [rows_tup, List.append_assoc, List.cons_append, List.nil_append, putV]
  obtain ⟨v1, hv1⟩ : ∃ x, x = v / 256 := ⟨_, rfl⟩
  have b1 : 0 ≤ v1 ∧ v1 ≤ 18446744073709551615 := by omega
  have e1 : IntKind.wrap .u64 (v.tdiv 256) = v1 := by rw [td8 (by omega), wrap_u64]; omega
  simp only [e1]
  obtain ⟨v2, hv2⟩ : ∃ x, x = v1 / 256 := ⟨_, rfl⟩
  have b2 : 0 ≤ v2 ∧ v2 ≤ 18446744073709551615 := by omega
  have e2 : IntKind.wrap .u64 (v1.tdiv 256) = v2 := by rw [td8 (by omega), wrap_u64]; omega
  simp only [e2]
  obtain ⟨v3, hv3⟩ : ∃ x, x = v2 / 256 := ⟨_, rfl⟩
  have b3 : 0 ≤ v3 ∧ v3 ≤ 18446744073709551615 := by omega
  have e3 : IntKind.wrap .u64 (v2.tdiv 256) = v3 := by rw [td8 (by omega), wrap_u64]; omega
  simp only [e3]
  obtain ⟨v4, hv4⟩ : ∃ x, x = v3 / 256 := ⟨_, rfl⟩
  have b4 : 0 ≤ v4 ∧ v4 ≤ 18446744073709551615 := by omega
  have e4 : IntKind.wrap .u64 (v3.tdiv 256) = v4 := by rw [td8 (by omega), wrap_u64]; omega
  simp only [e4]
  obtain ⟨v5, hv5⟩ : ∃ x, x = v4 / 256 := ⟨_, rfl⟩
  have b5 : 0 ≤ v5 ∧ v5 ≤ 18446744073709551615 := by omega
  have e5 : IntKind.wrap .u64 (v4.tdiv 256) = v5 := by rw [td8 (by omega), wrap_u64]; omega
  simp only [e5]
  obtain ⟨v6, hv6⟩ : ∃ x, x = v5 / 256 := ⟨_, rfl⟩
  have b6 : 0 ≤ v6 ∧ v6 ≤ 18446744073709551615 := by omega
  have e6 : IntKind.wrap .u64 (v5.tdiv 256) = v6 := by rw [td8 (by omega), wrap_u64]; omega
  simp only [e6]
  obtain ⟨v7, hv7⟩ : ∃ x, x = v6 / 256 := ⟨_, rfl⟩
  have b7 : 0 ≤ v7 ∧ v7 ≤ 18446744073709551615 := by omega
  have e7 : IntKind.wrap .u64 (v6.tdiv 256) = v7 := by rw [td8 (by omega), wrap_u64]; omega
  simp only [e7]
  simp only [wrap_u8, tm8 (show 0 ≤ v by omega), tm8 (show 0 ≤ v1 by omega), tm8 (show 0 ≤ v2 by omega), tm8 (show 0 ≤ v3 by omega), tm8 (show 0 ≤ v4 by omega), tm8 (show 0 ≤ v5 by omega), tm8 (show 0 ≤ v6 by omega), tm8 (show 0 ≤ v7 by omega), Int.emod_emod]
  refine tup_congr ?_
  simp only [numB, ← hv1, ← hv2, ← hv3, ← hv4, ← hv5, ← hv6, ← hv7]
 case a0 | a1 | a2 | a3 | a4 | a5 | a6 | a7 | a8 =>
  first
  | omega
  | (simp only [rows_tup, List.length_append, List.length_cons, List.length_nil, List.size_toArray]
     omega)
  | exact hc.1
theorem zpg_rput8 : zpc_rput8.Good Tryz.prog syG (zpE [] [] [] []) := good_of_walk (Γ := ⟨[], syG, [], [], []⟩) (ρ := zpE [] [] [] []) sym rput8_w rfl (fun _ _ _ _ => ok_nil) rput8_h
end Go.Proofs.YtgondiedehjkhaaGreatDoor
