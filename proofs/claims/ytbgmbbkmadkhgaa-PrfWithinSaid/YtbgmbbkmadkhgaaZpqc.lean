/-
  Layer 23 by the second engine: words, turns, rounds.
-/
import Derived.Test.YtbgmbbkmadkhgaaSycqc
import Derived.Test.YtbgmbbkmadkhgaaZ6bqc
import Derived.Test.YtbgmbbkmadkhgaaSpmqc
namespace Go.Proofs.Ytbgmbbkmadkhgaa
open Go.RowKit Go.Extern.Stop Go.Stop Go.Extern Go.Proofs.Ytbgmbbkmadkhgaa.Sy
set_option linter.unusedVariables false
set_option linter.unusedSimpArgs false
noncomputable def eqV (x y : Value) : Bool := @decide (x = y) (Classical.propDecidable _)
theorem eqV_iff {x y : Value} : eqV x y = true ↔ x = y := @decide_eq_true_iff _ (Classical.propDecidable _)
theorem rows_nil : Sy.rows (Value.tuple #[]) = [] := rfl
theorem rows_arr (l : List Value) : Sy.rows (Value.tuple l.toArray) = l := rfl
theorem rl_eq (l : List UInt8) : byL (Sy.rows (Value.tuple (l.map bV).toArray)) = l := byL_bV l
theorem t8 : Int.toNat 8 = 8 := rfl
theorem t1 : Int.toNat 1 = 1 := rfl
theorem spc0 (s : Sp) : spC s (Int.toNat 0) = s.a := rfl
theorem spc1 (s : Sp) : spC s (Int.toNat 1) = s.b := rfl
theorem spc2 (s : Sp) : spC s (Int.toNat 2) = s.c := rfl
theorem spc3 (s : Sp) : spC s (Int.toNat 3) = s.d := rfl
theorem sp_et (s : Sp) : (⟨s.a, s.b, s.c, s.d⟩ : Sp) = s := rfl
theorem wr_ad (x y : Int) : IntKind.wrap .u64 (x + y) = adI x y := rfl
theorem xo_def (x y : Int) : Sy.bitsV .xor .u64 x y = xoI x y := rfl
noncomputable def zpI : Nat → List Value → Int
  | 10, [.int _ x, .int _ k] => rlI k.toNat x
  | 11, [.int _ a, .int _ b, .int _ c, .int _ d, .int _ k] => spC (rndS ⟨a, b, c, d⟩) k.toNat
  | 12, [.int _ a, .int _ b, .int _ c, .int _ d, .int _ w, .int _ k] => spC (tkS ⟨a, b, c, d⟩ w) k.toNat
  | 13, [.int _ a, .int _ b, .int _ c, .int _ d, .int _ n, .int _ k] => spC (rndN ⟨a, b, c, d⟩ n.toNat) k.toNat
  | 14, [k, l, .int _ n, .int _ j] => spC (stN (byL (rows k)) (padL (byL (rows l))) n.toNat) j.toNat
  | 15, [k, l, .int _ n, .int _ j] => spC (rndN (preF (byL (rows k)) (byL (rows l))) n.toNat) j.toNat
  | 16, [k, l] => sipS (byL (rows k)) (byL (rows l))
  | 17, [k, .int _ p, .int _ n] => numS (byL (rows k)) p n
  | 18, [k, .int _ u, .int _ j] => Go.RowKit.intOf ((drvL (byL (rows k)) u).getD j.toNat Go.undef)
  | i, l => zb6I i l
noncomputable def zpB : Nat → List Value → Bool
  | 3, [x, y] => eqV x y
  | i, l => zb6B i l
noncomputable def zpV : Nat → List Value → Value
  | 9, [l] => Value.tuple ((padL (byL (rows l))).map bV).toArray
  | 10, [l, .int _ n] => Value.tuple (rows l ++ List.replicate n.toNat (Value.int .u8 0)).toArray
  | 11, [l, .int _ a, .int _ n] => Value.tuple (((rows l).take (8 * a.toNat)).drop (8 * n.toNat)).toArray
  | i, l => zb6V i l
noncomputable abbrev zpE (iv : List Int) (bv : List Bool) (vv : List Value) (sv : List ByteArray) : Env := { iv := iv, bv := bv, vv := vv, sv := sv, fi := zpI, fb := zpB, fv := zpV, et := 102 }
set_option maxHeartbeats 8000000 in
theorem zpup : Agree 10 3 9 (zb6E [] [] [] []) (zpE [] [] [] []) := ⟨rfl, (by
    intro f hf
    funext l
    show zpI f l = zb6I f l
    unfold zpI
    split <;> first | rfl | omega), (by
    intro f hf
    funext l
    show zpB f l = zb6B f l
    unfold zpB
    split <;> first | rfl | omega), (by
    intro f hf
    funext l
    show zpV f l = zb6V f l
    unfold zpV
    split <;> first | rfl | omega)⟩
theorem zpi_rn (l : Value) (k1 : IntKind) (k : Int) : zpI 0 [l, .int k1 k] = ((getV (byL (rows l)) k.toNat : Nat) : Int) := rfl
theorem zpi_rt (k1 : IntKind) (x : Int) (k2 : IntKind) (k : Int) : zpI 10 [.int k1 x, .int k2 k] = rlI k.toNat x := rfl
theorem zpi_rd (k1 : IntKind) (a : Int) (k2 : IntKind) (b : Int) (k3 : IntKind) (c : Int) (k4 : IntKind) (d : Int) (k5 : IntKind) (k : Int) : zpI 11 [.int k1 a, .int k2 b, .int k3 c, .int k4 d, .int k5 k] = spC (rndS ⟨a, b, c, d⟩) k.toNat := rfl
theorem zpi_tk (k1 : IntKind) (a : Int) (k2 : IntKind) (b : Int) (k3 : IntKind) (c : Int) (k4 : IntKind) (d : Int) (k5 : IntKind) (w : Int) (k6 : IntKind) (k : Int) : zpI 12 [.int k1 a, .int k2 b, .int k3 c, .int k4 d, .int k5 w, .int k6 k] = spC (tkS ⟨a, b, c, d⟩ w) k.toNat := rfl
theorem zpb_okr (l : Value) : zpB 0 [l] = okR (rows l) := rfl
theorem zpb_rs (l : Value) (s : Bool) (k1 : IntKind) (k : Int) : zpB 1 [l, .bool s, .int k1 k] = getS (byL (rows l)) s k.toNat := rfl
theorem zpv_rl (l : Value) (k1 : IntKind) (k : Int) : zpV 0 [l, .int k1 k] = Value.tuple ((getL (byL (rows l)) k.toNat).map bV).toArray := rfl
theorem zpv_p8 (l : Value) (k1 : IntKind) (v : Int) : zpV 6 [l, .int k1 v] = putV (rows l) v 8 := rfl
def i64p_tree : Tree :=
 (.need (an_ (le_ (.ofI (.vop (.len 1) (.cons o0_ .nil))) (.lit 140737488355000)) (an_ (le_ (.lit 0) (.wrap .u64 v0_)) (le_ (.wrap .u64 v0_) (.lit 18446744073709551615))))
 (.ret (.hs (.new 5) (.cons (.int .u8) .nil) (.vapp 6 (.cons o0_ (.cons (.int .i64 (.wrap .u64 v0_)) .nil))))))
abbrev zpc_i64p : Con := ⟨35, [(.hs .no (.cons (.int .u8) .nil) o0_), z0_], (an_ (le_ (.ofI (.vop (.len 1) (.cons o0_ .nil))) (.lit 70368744177664)) (an_ (le_ lm_ v0_) (le_ v0_ lM_))), (.hs (.new 5) (.cons (.int .u8) .nil) (.vapp 6 (.cons o0_ (.cons z0_ .nil)))), ⟨1, 0, 1, 0⟩, none⟩
theorem i64p_w : walk Try.prog 102 ⟨[z6c_num8], syG, [], [], []⟩ [] (.o 5 (.cons (.int .u8) .nil)) zpc_i64p zpc_i64p.n 3000 = some i64p_tree := by kernel_rfl
theorem i64p_h (v : Int) (l : Value) (hc : holds (zpE [v] [] [l] []) (an_ (le_ (.ofI (.vop (.len 1) (.cons o0_ .nil))) (.lit 70368744177664)) (an_ (le_ lm_ v0_) (le_ v0_ lM_)))) (hty : patsTyp (zpE [v] [] [l] []) [(.hs .no (.cons (.int .u8) .nil) o0_), z0_]) : i64p_tree.holds (fun v_ => v_ = denV (zpE [v] [] [l] []) b0 (.hs (.new 5) (.cons (.int .u8) .nil) (.vapp 6 (.cons o0_ (.cons z0_ .nil))))) (zpE [v] [] [l] []) := by
  simp only [Tree.holds, Sy.holds, AllN, Env.more, zpE, List.cons_append, List.nil_append, List.append_nil, denV, denI, denB, denL, I2.den, VOp.den, List.getD_cons_zero, List.getD_cons_succ, Cst.den, syso, syse, syio, sybo, List.map_nil, List.map_cons, B2.ofInts, B2.denI, B2.denB, if_true, Bool.false_eq_true, if_false, Nat.div_one, Nat.mul_one, Nat.add_zero, holds] at hc
  simp only [patsTyp, patTyp, patTypL, zpE, denV, denL, List.getD_cons_zero, List.getD_cons_succ, and_true, true_and] at hty
  have hL_l : typ (.sl (.cons (.int .u8) .nil)) l := by first | exact hty | exact hty.1 | exact hty.2 | exact hty.1.1 | exact hty.1.2 | exact hty.2.1 | exact hty.2.2 | exact hty.2.2.1 | exact hty.2.2.2
  have hN_l := typ_len (n := 1) hL_l rfl (by omega)
  simp only [Nat.div_one, Nat.mul_one] at hN_l
  unfold i64p_tree
  simp only [Tree.holds, Sy.holds, AllN, Env.more, zpE, List.cons_append, List.nil_append, List.append_nil, denV, denI, denB, denL, I2.den, VOp.den, List.getD_cons_zero, List.getD_cons_succ, Cst.den, syso, syse, syio, sybo, zpv_p8, List.map_nil, List.map_cons, B2.ofInts, B2.denI, B2.denB, if_true, Bool.false_eq_true, if_false, Nat.div_one, Nat.mul_one, Nat.add_zero]
  have wf0 := wr_u64 v
  refine ⟨?_, fun h0 => ?_⟩
  ·
   first
   | omega
   | (have := wr_u64 v
      omega)
  ·
   try simp only [hw0]
   unfold putV
   rw [numB_u64 (by omega) (by omega)]
theorem zpg_i64p : zpc_i64p.Good Try.prog syG (zpE [] [] [] []) := good_of_walk (Γ := ⟨[z6c_num8], syG, [], [], []⟩) (ρ := zpE [] [] [] []) sym i64p_w rfl (fun _ _ _ _ => (ok_cons (Con.Good.env (Con.Good.up (Con.Good.up z6g_num8 zb6up rfl) zpup rfl) _ _ _ _) ok_nil)) (fun v l hc hty => i64p_h v l hc hty)
def rput8_tree : Tree :=
 (.need (le_ (ad_ (.lit 0) (.ofI (.vop (.len 1) (.cons o0_ .nil)))) (.lit 140737488355328))
 (.need (le_ (ad_ (.ofI (.vop (.len 1) (.cons o0_ .nil))) (.lit 1)) (.lit 140737488355328))
 (.need (le_ (ad_ (.ofI (.vop (.len 1) (.cons (.vop .cat (.cons o0_ (.cons (.tup (.cons (.int .u8 (.wrap .u8 (.i2 .rem v0_ (.lit 256)))) .nil)) .nil))) .nil))) (.lit 1)) (.lit 140737488355328))
 (.need (le_ (ad_ (.ofI (.vop (.len 1) (.cons (.vop .cat (.cons (.vop .cat (.cons o0_ (.cons (.tup (.cons (.int .u8 (.wrap .u8 (.i2 .rem v0_ (.lit 256)))) .nil)) .nil))) (.cons (.tup (.cons (.int .u8 (.wrap .u8 (.i2 .rem (.wrap .u64 (.i2 .quo v0_ (.lit 256))) (.lit 256)))) .nil)) .nil))) .nil))) (.lit 1)) (.lit 140737488355328))
 (.need (le_ (ad_ (.ofI (.vop (.len 1) (.cons (.vop .cat (.cons (.vop .cat (.cons (.vop .cat (.cons o0_ (.cons (.tup (.cons (.int .u8 (.wrap .u8 (.i2 .rem v0_ (.lit 256)))) .nil)) .nil))) (.cons (.tup (.cons (.int .u8 (.wrap .u8 (.i2 .rem (.wrap .u64 (.i2 .quo v0_ (.lit 256))) (.lit 256)))) .nil)) .nil))) (.cons (.tup (.cons (.int .u8 (.wrap .u8 (.i2 .rem (.wrap .u64 (.i2 .quo (.wrap .u64 (.i2 .quo v0_ (.lit 256))) (.lit 256))) (.lit 256)))) .nil)) .nil))) .nil))) (.lit 1)) (.lit 140737488355328))
 (.need (le_ (ad_ (.ofI (.vop (.len 1) (.cons (.vop .cat (.cons (.vop .cat (.cons (.vop .cat (.cons (.vop .cat (.cons o0_ (.cons (.tup (.cons (.int .u8 (.wrap .u8 (.i2 .rem v0_ (.lit 256)))) .nil)) .nil))) (.cons (.tup (.cons (.int .u8 (.wrap .u8 (.i2 .rem (.wrap .u64 (.i2 .quo v0_ (.lit 256))) (.lit 256)))) .nil)) .nil))) (.cons (.tup (.cons (.int .u8 (.wrap .u8 (.i2 .rem (.wrap .u64 (.i2 .quo (.wrap .u64 (.i2 .quo v0_ (.lit 256))) (.lit 256))) (.lit 256)))) .nil)) .nil))) (.cons (.tup (.cons (.int .u8 (.wrap .u8 (.i2 .rem (.wrap .u64 (.i2 .quo (.wrap .u64 (.i2 .quo (.wrap .u64 (.i2 .quo v0_ (.lit 256))) (.lit 256))) (.lit 256))) (.lit 256)))) .nil)) .nil))) .nil))) (.lit 1)) (.lit 140737488355328))
 (.need (le_ (ad_ (.ofI (.vop (.len 1) (.cons (.vop .cat (.cons (.vop .cat (.cons (.vop .cat (.cons (.vop .cat (.cons (.vop .cat (.cons o0_ (.cons (.tup (.cons (.int .u8 (.wrap .u8 (.i2 .rem v0_ (.lit 256)))) .nil)) .nil))) (.cons (.tup (.cons (.int .u8 (.wrap .u8 (.i2 .rem (.wrap .u64 (.i2 .quo v0_ (.lit 256))) (.lit 256)))) .nil)) .nil))) (.cons (.tup (.cons (.int .u8 (.wrap .u8 (.i2 .rem (.wrap .u64 (.i2 .quo (.wrap .u64 (.i2 .quo v0_ (.lit 256))) (.lit 256))) (.lit 256)))) .nil)) .nil))) (.cons (.tup (.cons (.int .u8 (.wrap .u8 (.i2 .rem (.wrap .u64 (.i2 .quo (.wrap .u64 (.i2 .quo (.wrap .u64 (.i2 .quo v0_ (.lit 256))) (.lit 256))) (.lit 256))) (.lit 256)))) .nil)) .nil))) (.cons (.tup (.cons (.int .u8 (.wrap .u8 (.i2 .rem (.wrap .u64 (.i2 .quo (.wrap .u64 (.i2 .quo (.wrap .u64 (.i2 .quo (.wrap .u64 (.i2 .quo v0_ (.lit 256))) (.lit 256))) (.lit 256))) (.lit 256))) (.lit 256)))) .nil)) .nil))) .nil))) (.lit 1)) (.lit 140737488355328))
 (.need (le_ (ad_ (.ofI (.vop (.len 1) (.cons (.vop .cat (.cons (.vop .cat (.cons (.vop .cat (.cons (.vop .cat (.cons (.vop .cat (.cons (.vop .cat (.cons o0_ (.cons (.tup (.cons (.int .u8 (.wrap .u8 (.i2 .rem v0_ (.lit 256)))) .nil)) .nil))) (.cons (.tup (.cons (.int .u8 (.wrap .u8 (.i2 .rem (.wrap .u64 (.i2 .quo v0_ (.lit 256))) (.lit 256)))) .nil)) .nil))) (.cons (.tup (.cons (.int .u8 (.wrap .u8 (.i2 .rem (.wrap .u64 (.i2 .quo (.wrap .u64 (.i2 .quo v0_ (.lit 256))) (.lit 256))) (.lit 256)))) .nil)) .nil))) (.cons (.tup (.cons (.int .u8 (.wrap .u8 (.i2 .rem (.wrap .u64 (.i2 .quo (.wrap .u64 (.i2 .quo (.wrap .u64 (.i2 .quo v0_ (.lit 256))) (.lit 256))) (.lit 256))) (.lit 256)))) .nil)) .nil))) (.cons (.tup (.cons (.int .u8 (.wrap .u8 (.i2 .rem (.wrap .u64 (.i2 .quo (.wrap .u64 (.i2 .quo (.wrap .u64 (.i2 .quo (.wrap .u64 (.i2 .quo v0_ (.lit 256))) (.lit 256))) (.lit 256))) (.lit 256))) (.lit 256)))) .nil)) .nil))) (.cons (.tup (.cons (.int .u8 (.wrap .u8 (.i2 .rem (.wrap .u64 (.i2 .quo (.wrap .u64 (.i2 .quo (.wrap .u64 (.i2 .quo (.wrap .u64 (.i2 .quo (.wrap .u64 (.i2 .quo v0_ (.lit 256))) (.lit 256))) (.lit 256))) (.lit 256))) (.lit 256))) (.lit 256)))) .nil)) .nil))) .nil))) (.lit 1)) (.lit 140737488355328))
 (.need (le_ (ad_ (.ofI (.vop (.len 1) (.cons (.vop .cat (.cons (.vop .cat (.cons (.vop .cat (.cons (.vop .cat (.cons (.vop .cat (.cons (.vop .cat (.cons (.vop .cat (.cons o0_ (.cons (.tup (.cons (.int .u8 (.wrap .u8 (.i2 .rem v0_ (.lit 256)))) .nil)) .nil))) (.cons (.tup (.cons (.int .u8 (.wrap .u8 (.i2 .rem (.wrap .u64 (.i2 .quo v0_ (.lit 256))) (.lit 256)))) .nil)) .nil))) (.cons (.tup (.cons (.int .u8 (.wrap .u8 (.i2 .rem (.wrap .u64 (.i2 .quo (.wrap .u64 (.i2 .quo v0_ (.lit 256))) (.lit 256))) (.lit 256)))) .nil)) .nil))) (.cons (.tup (.cons (.int .u8 (.wrap .u8 (.i2 .rem (.wrap .u64 (.i2 .quo (.wrap .u64 (.i2 .quo (.wrap .u64 (.i2 .quo v0_ (.lit 256))) (.lit 256))) (.lit 256))) (.lit 256)))) .nil)) .nil))) (.cons (.tup (.cons (.int .u8 (.wrap .u8 (.i2 .rem (.wrap .u64 (.i2 .quo (.wrap .u64 (.i2 .quo (.wrap .u64 (.i2 .quo (.wrap .u64 (.i2 .quo v0_ (.lit 256))) (.lit 256))) (.lit 256))) (.lit 256))) (.lit 256)))) .nil)) .nil))) (.cons (.tup (.cons (.int .u8 (.wrap .u8 (.i2 .rem (.wrap .u64 (.i2 .quo (.wrap .u64 (.i2 .quo (.wrap .u64 (.i2 .quo (.wrap .u64 (.i2 .quo (.wrap .u64 (.i2 .quo v0_ (.lit 256))) (.lit 256))) (.lit 256))) (.lit 256))) (.lit 256))) (.lit 256)))) .nil)) .nil))) (.cons (.tup (.cons (.int .u8 (.wrap .u8 (.i2 .rem (.wrap .u64 (.i2 .quo (.wrap .u64 (.i2 .quo (.wrap .u64 (.i2 .quo (.wrap .u64 (.i2 .quo (.wrap .u64 (.i2 .quo (.wrap .u64 (.i2 .quo v0_ (.lit 256))) (.lit 256))) (.lit 256))) (.lit 256))) (.lit 256))) (.lit 256))) (.lit 256)))) .nil)) .nil))) .nil))) (.lit 1)) (.lit 140737488355328))
 (.ret (.hs (.new 5) (.cons (.int .u8) .nil) (.vop .cat (.cons (.vop .cat (.cons (.vop .cat (.cons (.vop .cat (.cons (.vop .cat (.cons (.vop .cat (.cons (.vop .cat (.cons (.vop .cat (.cons o0_ (.cons (.tup (.cons (.int .u8 (.wrap .u8 (.i2 .rem v0_ (.lit 256)))) .nil)) .nil))) (.cons (.tup (.cons (.int .u8 (.wrap .u8 (.i2 .rem (.wrap .u64 (.i2 .quo v0_ (.lit 256))) (.lit 256)))) .nil)) .nil))) (.cons (.tup (.cons (.int .u8 (.wrap .u8 (.i2 .rem (.wrap .u64 (.i2 .quo (.wrap .u64 (.i2 .quo v0_ (.lit 256))) (.lit 256))) (.lit 256)))) .nil)) .nil))) (.cons (.tup (.cons (.int .u8 (.wrap .u8 (.i2 .rem (.wrap .u64 (.i2 .quo (.wrap .u64 (.i2 .quo (.wrap .u64 (.i2 .quo v0_ (.lit 256))) (.lit 256))) (.lit 256))) (.lit 256)))) .nil)) .nil))) (.cons (.tup (.cons (.int .u8 (.wrap .u8 (.i2 .rem (.wrap .u64 (.i2 .quo (.wrap .u64 (.i2 .quo (.wrap .u64 (.i2 .quo (.wrap .u64 (.i2 .quo v0_ (.lit 256))) (.lit 256))) (.lit 256))) (.lit 256))) (.lit 256)))) .nil)) .nil))) (.cons (.tup (.cons (.int .u8 (.wrap .u8 (.i2 .rem (.wrap .u64 (.i2 .quo (.wrap .u64 (.i2 .quo (.wrap .u64 (.i2 .quo (.wrap .u64 (.i2 .quo (.wrap .u64 (.i2 .quo v0_ (.lit 256))) (.lit 256))) (.lit 256))) (.lit 256))) (.lit 256))) (.lit 256)))) .nil)) .nil))) (.cons (.tup (.cons (.int .u8 (.wrap .u8 (.i2 .rem (.wrap .u64 (.i2 .quo (.wrap .u64 (.i2 .quo (.wrap .u64 (.i2 .quo (.wrap .u64 (.i2 .quo (.wrap .u64 (.i2 .quo (.wrap .u64 (.i2 .quo v0_ (.lit 256))) (.lit 256))) (.lit 256))) (.lit 256))) (.lit 256))) (.lit 256))) (.lit 256)))) .nil)) .nil))) (.cons (.tup (.cons (.int .u8 (.wrap .u8 (.i2 .rem (.wrap .u64 (.i2 .quo (.wrap .u64 (.i2 .quo (.wrap .u64 (.i2 .quo (.wrap .u64 (.i2 .quo (.wrap .u64 (.i2 .quo (.wrap .u64 (.i2 .quo (.wrap .u64 (.i2 .quo v0_ (.lit 256))) (.lit 256))) (.lit 256))) (.lit 256))) (.lit 256))) (.lit 256))) (.lit 256))) (.lit 256)))) .nil)) .nil))))))))))))))
abbrev zpc_rput8 : Con := ⟨36, [(.hs .no (.cons (.int .u8) .nil) o0_), (.int .u64 v0_), (.int .i64 (.lit 8))], (an_ (le_ (.ofI (.vop (.len 1) (.cons o0_ .nil))) (.lit 70368744177664)) (an_ (le_ (.lit 0) v0_) (le_ v0_ (.lit 18446744073709551615)))), (.hs (.new 5) (.cons (.int .u8) .nil) (.vapp 6 (.cons o0_ (.cons (.int .u64 v0_) .nil)))), ⟨1, 0, 1, 0⟩, none⟩
theorem rput8_w : walk Try.prog 102 ⟨[], syG, [], [], []⟩ [] (.o 5 (.cons (.int .u8) .nil)) zpc_rput8 zpc_rput8.n 3000 = some rput8_tree := by kernel_rfl
theorem rput8_h (v : Int) (l : Value) (hc : holds (zpE [v] [] [l] []) (an_ (le_ (.ofI (.vop (.len 1) (.cons o0_ .nil))) (.lit 70368744177664)) (an_ (le_ (.lit 0) v0_) (le_ v0_ (.lit 18446744073709551615))))) (hty : patsTyp (zpE [v] [] [l] []) [(.hs .no (.cons (.int .u8) .nil) o0_), (.int .u64 v0_), (.int .i64 (.lit 8))]) : rput8_tree.holds (fun v_ => v_ = denV (zpE [v] [] [l] []) b0 (.hs (.new 5) (.cons (.int .u8) .nil) (.vapp 6 (.cons o0_ (.cons (.int .u64 v0_) .nil))))) (zpE [v] [] [l] []) := by
  simp only [Tree.holds, Sy.holds, AllN, Env.more, zpE, List.cons_append, List.nil_append, List.append_nil, denV, denI, denB, denL, I2.den, VOp.den, List.getD_cons_zero, List.getD_cons_succ, Cst.den, syso, syse, syio, sybo, List.map_nil, List.map_cons, B2.ofInts, B2.denI, B2.denB, if_true, Bool.false_eq_true, if_false, Nat.div_one, Nat.mul_one, Nat.add_zero, holds] at hc
  simp only [patsTyp, patTyp, patTypL, zpE, denV, denL, List.getD_cons_zero, List.getD_cons_succ, and_true, true_and] at hty
  have hL_l : typ (.sl (.cons (.int .u8) .nil)) l := by first | exact hty | exact hty.1 | exact hty.2 | exact hty.1.1 | exact hty.1.2 | exact hty.2.1 | exact hty.2.2 | exact hty.2.2.1 | exact hty.2.2.2
  have hN_l := typ_len (n := 1) hL_l rfl (by omega)
  simp only [Nat.div_one, Nat.mul_one] at hN_l
  unfold rput8_tree
  simp only [Tree.holds, Sy.holds, AllN, Env.more, zpE, List.cons_append, List.nil_append, List.append_nil, denV, denI, denB, denL, I2.den, VOp.den, List.getD_cons_zero, List.getD_cons_succ, Cst.den, syso, syse, syio, sybo, zpv_p8, List.map_nil, List.map_cons, B2.ofInts, B2.denI, B2.denB, if_true, Bool.false_eq_true, if_false, Nat.div_one, Nat.mul_one, Nat.add_zero]
  refine ⟨?_, fun h0 => ?_⟩
  ·
   first
   | omega
   | (simp only [rows_tup, List.length_append, List.length_cons, List.length_nil, List.size_toArray]
      omega)
   | exact hc.1
  ·
   refine ⟨?_, fun h1 => ?_⟩
   ·
    first
    | omega
    | (simp only [rows_tup, List.length_append, List.length_cons, List.length_nil, List.size_toArray]
       omega)
    | exact hc.1
   ·
    refine ⟨?_, fun h2 => ?_⟩
    ·
     first
     | omega
     | (simp only [rows_tup, List.length_append, List.length_cons, List.length_nil, List.size_toArray]
        omega)
     | exact hc.1
    ·
     try simp only [hw0]
     refine ⟨?_, fun h3 => ?_⟩
     ·
      first
      | omega
      | (simp only [rows_tup, List.length_append, List.length_cons, List.length_nil, List.size_toArray]
         omega)
      | exact hc.1
     ·
      try simp only [hw2]
      try simp only [hw1]
      try simp only [hw0]
      refine ⟨?_, fun h4 => ?_⟩
      ·
       first
       | omega
       | (simp only [rows_tup, List.length_append, List.length_cons, List.length_nil, List.size_toArray]
          omega)
       | exact hc.1
      ·
       try simp only [hw4]
       try simp only [hw3]
       try simp only [hw2]
       try simp only [hw1]
       try simp only [hw0]
       refine ⟨?_, fun h5 => ?_⟩
       ·
        first
        | omega
        | (simp only [rows_tup, List.length_append, List.length_cons, List.length_nil, List.size_toArray]
           omega)
        | exact hc.1
       ·
        try simp only [hw6]
        try simp only [hw5]
        try simp only [hw4]
        try simp only [hw3]
        try simp only [hw2]
        try simp only [hw1]
        try simp only [hw0]
        refine ⟨?_, fun h6 => ?_⟩
        ·
         first
         | omega
         | (simp only [rows_tup, List.length_append, List.length_cons, List.length_nil, List.size_toArray]
            omega)
         | exact hc.1
        ·
         try simp only [hw8]
         try simp only [hw7]
         try simp only [hw6]
         try simp only [hw5]
         try simp only [hw4]
         try simp only [hw3]
         try simp only [hw2]
         try simp only [hw1]
         try simp only [hw0]
         refine ⟨?_, fun h7 => ?_⟩
         ·
          first
          | omega
          | (simp only [rows_tup, List.length_append, List.length_cons, List.length_nil, List.size_toArray]
             omega)
          | exact hc.1
         ·
          try simp only [hw10]
          try simp only [hw9]
          try simp only [hw8]
          try simp only [hw7]
          try simp only [hw6]
          try simp only [hw5]
          try simp only [hw4]
          try simp only [hw3]
          try simp only [hw2]
          try simp only [hw1]
          try simp only [hw0]
          refine ⟨?_, fun h8 => ?_⟩
          ·
           first
           | omega
           | (simp only [rows_tup, List.length_append, List.length_cons, List.length_nil, List.size_toArray]
              omega)
           | exact hc.1
          ·
           try simp only [hw12]
           try simp only [hw11]
           try simp only [hw10]
           try simp only [hw9]
           try simp only [hw8]
           try simp only [hw7]
           try simp only [hw6]
           try simp only [hw5]
           try simp only [hw4]
           try simp only [hw3]
           try simp only [hw2]
           try simp only [hw1]
           try simp only [hw0]
           simp only [rows_tup, List.append_assoc, List.cons_append, List.nil_append, putV]
           obtain ⟨v1, hv1⟩ : ∃ x, x = v / 256 := ⟨_, rfl⟩
           have b1 : 0 ≤ v1 ∧ v1 ≤ 18446744073709551615 := by omega
           have e1 : IntKind.wrap .u64 (v.tdiv 256) = v1 := by rw [td8 (by omega), wrap_u64]; omega
           simp only [e1]
           obtain ⟨v2, hv2⟩ : ∃ x, x = v1 / 256 := ⟨_, rfl⟩
           have b2 : 0 ≤ v2 ∧ v2 ≤ 18446744073709551615 := by omega
           have e2 : IntKind.wrap .u64 (v1.tdiv 256) = v2 := by rw [td8 (by omega), wrap_u64]; omega
           simp only [e2]
           obtain ⟨v3, hv3⟩ : ∃ x, x = v2 / 256 := ⟨_, rfl⟩
           have b3 : 0 ≤ v3 ∧ v3 ≤ 18446744073709551615 := by omega
           have e3 : IntKind.wrap .u64 (v2.tdiv 256) = v3 := by rw [td8 (by omega), wrap_u64]; omega
           simp only [e3]
           obtain ⟨v4, hv4⟩ : ∃ x, x = v3 / 256 := ⟨_, rfl⟩
           have b4 : 0 ≤ v4 ∧ v4 ≤ 18446744073709551615 := by omega
           have e4 : IntKind.wrap .u64 (v3.tdiv 256) = v4 := by rw [td8 (by omega), wrap_u64]; omega
           simp only [e4]
           obtain ⟨v5, hv5⟩ : ∃ x, x = v4 / 256 := ⟨_, rfl⟩
           have b5 : 0 ≤ v5 ∧ v5 ≤ 18446744073709551615 := by omega
           have e5 : IntKind.wrap .u64 (v4.tdiv 256) = v5 := by rw [td8 (by omega), wrap_u64]; omega
           simp only [e5]
           obtain ⟨v6, hv6⟩ : ∃ x, x = v5 / 256 := ⟨_, rfl⟩
           have b6 : 0 ≤ v6 ∧ v6 ≤ 18446744073709551615 := by omega
           have e6 : IntKind.wrap .u64 (v5.tdiv 256) = v6 := by rw [td8 (by omega), wrap_u64]; omega
           simp only [e6]
           obtain ⟨v7, hv7⟩ : ∃ x, x = v6 / 256 := ⟨_, rfl⟩
           have b7 : 0 ≤ v7 ∧ v7 ≤ 18446744073709551615 := by omega
           have e7 : IntKind.wrap .u64 (v6.tdiv 256) = v7 := by rw [td8 (by omega), wrap_u64]; omega
           simp only [e7]
           simp only [wrap_u8, tm8 (show 0 ≤ v by omega), tm8 (show 0 ≤ v1 by omega), tm8 (show 0 ≤ v2 by omega), tm8 (show 0 ≤ v3 by omega), tm8 (show 0 ≤ v4 by omega), tm8 (show 0 ≤ v5 by omega), tm8 (show 0 ≤ v6 by omega), tm8 (show 0 ≤ v7 by omega), Int.emod_emod]
           refine tup_congr ?_
           simp only [numB, ← hv1, ← hv2, ← hv3, ← hv4, ← hv5, ← hv6, ← hv7]
theorem zpg_rput8 : zpc_rput8.Good Try.prog syG (zpE [] [] [] []) := good_of_walk (Γ := ⟨[], syG, [], [], []⟩) (ρ := zpE [] [] [] []) sym rput8_w rfl (fun _ _ _ _ => ok_nil) (fun v l hc hty => rput8_h v l hc hty)
def rtk8_tree : Tree :=
 (.br (.bvar 0)
 (.ret (.tup (.cons (.agg (.cons (.hs .no (.cons (.int .u8) .nil) (.tup .nil)) (.cons (.bool (.tt true)) .nil))) (.cons (.int .u64 (.lit 0)) .nil))))
 (.br (lt_ (.ofI (.vop (.len 1) (.cons o0_ .nil))) (.lit 8))
 (.ret (.tup (.cons (.agg (.cons (.hs .no (.cons (.int .u8) .nil) (.tup .nil)) (.cons (.bool (.tt true)) .nil))) (.cons (.int .u64 (.lit 0)) .nil))))
 (.need (lt_ (.lit 7) (.ofI (.vop (.len 1) (.cons o0_ .nil))))
 (.need (lt_ (.lit 6) (.ofI (.vop (.len 1) (.cons o0_ .nil))))
 (.need (lt_ (.lit 5) (.ofI (.vop (.len 1) (.cons o0_ .nil))))
 (.need (lt_ (.lit 4) (.ofI (.vop (.len 1) (.cons o0_ .nil))))
 (.need (lt_ (.lit 3) (.ofI (.vop (.len 1) (.cons o0_ .nil))))
 (.need (lt_ (.lit 2) (.ofI (.vop (.len 1) (.cons o0_ .nil))))
 (.need (lt_ (.lit 1) (.ofI (.vop (.len 1) (.cons o0_ .nil))))
 (.need (lt_ (.lit 0) (.ofI (.vop (.len 1) (.cons o0_ .nil))))
 (.need (le_ (.lit 8) (.ofI (.vop (.len 1) (.cons o0_ .nil))))
 (.ret (.tup (.cons (.agg (.cons (.hs .no (.cons (.int .u8) .nil) (.vop (.sub 1) (.cons o0_ (.cons (.int .i64 (.lit 8)) (.cons (.int .i64 (.ofI (.vop (.len 1) (.cons o0_ .nil)))) .nil))))) (.cons (.bool (.tt false)) .nil))) (.cons (.int .u64 (.wrap .u64 (ad_ (.wrap .u64 (ml_ (.lit 256) (.wrap .u64 (ad_ (.wrap .u64 (ml_ (.lit 256) (.wrap .u64 (ad_ (.wrap .u64 (ml_ (.lit 256) (.wrap .u64 (ad_ (.wrap .u64 (ml_ (.lit 256) (.wrap .u64 (ad_ (.wrap .u64 (ml_ (.lit 256) (.wrap .u64 (ad_ (.wrap .u64 (ml_ (.lit 256) (.wrap .u64 (ad_ (.wrap .u64 (ml_ (.lit 256) (.wrap .u64 (ad_ (.lit 0) (.wrap .u64 (.ofI (.vop (.sel 1 0) (.cons o0_ (.cons (.int .i64 (.lit 7)) .nil))))))))) (.wrap .u64 (.ofI (.vop (.sel 1 0) (.cons o0_ (.cons (.int .i64 (.lit 6)) .nil))))))))) (.wrap .u64 (.ofI (.vop (.sel 1 0) (.cons o0_ (.cons (.int .i64 (.lit 5)) .nil))))))))) (.wrap .u64 (.ofI (.vop (.sel 1 0) (.cons o0_ (.cons (.int .i64 (.lit 4)) .nil))))))))) (.wrap .u64 (.ofI (.vop (.sel 1 0) (.cons o0_ (.cons (.int .i64 (.lit 3)) .nil))))))))) (.wrap .u64 (.ofI (.vop (.sel 1 0) (.cons o0_ (.cons (.int .i64 (.lit 2)) .nil))))))))) (.wrap .u64 (.ofI (.vop (.sel 1 0) (.cons o0_ (.cons (.int .i64 (.lit 1)) .nil))))))))) (.wrap .u64 (.ofI (.vop (.sel 1 0) (.cons o0_ (.cons (.int .i64 (.lit 0)) .nil)))))))) .nil)))))))))))))))
abbrev zpc_rtk8 : Con := ⟨51, [(.agg (.cons (.hs .no (.cons (.int .u8) .nil) o0_) (.cons (.bool (.bvar 0)) .nil))), (.int .i64 (.lit 8))], (an_ (.bapp 0 (.cons o0_ .nil)) (.not (.bvar 0))), (.tup (.cons (.agg (.cons (.hs .no (.cons (.int .u8) .nil) (.vapp 0 (.cons o0_ (.cons (.int .i64 (.lit 8)) .nil)))) (.cons (.bool (.bapp 1 (.cons o0_ (.cons (.bool (.bvar 0)) (.cons (.int .i64 (.lit 8)) .nil))))) .nil))) (.cons (.int .u64 (.iapp 0 (.cons o0_ (.cons (.int .i64 (.lit 8)) .nil)))) .nil))), ⟨0, 1, 1, 0⟩, none⟩
theorem rtk8_w : walk Try.prog 102 ⟨[], syG, [], [], []⟩ [] (.tup (.cons (.agg (.cons (.s (.cons (.int .u8) .nil)) (.cons .v .nil))) (.cons .v .nil))) zpc_rtk8 zpc_rtk8.n 3000 = some rtk8_tree := by kernel_rfl
theorem rtk8_h (s : Bool) (l : Value) (hc : holds (zpE [] [s] [l] []) (an_ (.bapp 0 (.cons o0_ .nil)) (.not (.bvar 0)))) (hty : patsTyp (zpE [] [s] [l] []) [(.agg (.cons (.hs .no (.cons (.int .u8) .nil) o0_) (.cons (.bool (.bvar 0)) .nil))), (.int .i64 (.lit 8))]) : rtk8_tree.holds (fun v_ => v_ = denV (zpE [] [s] [l] []) b0 (.tup (.cons (.agg (.cons (.hs .no (.cons (.int .u8) .nil) (.vapp 0 (.cons o0_ (.cons (.int .i64 (.lit 8)) .nil)))) (.cons (.bool (.bapp 1 (.cons o0_ (.cons (.bool (.bvar 0)) (.cons (.int .i64 (.lit 8)) .nil))))) .nil))) (.cons (.int .u64 (.iapp 0 (.cons o0_ (.cons (.int .i64 (.lit 8)) .nil)))) .nil)))) (zpE [] [s] [l] []) := by
  simp only [Tree.holds, Sy.holds, AllN, Env.more, zpE, List.cons_append, List.nil_append, List.append_nil, denV, denI, denB, denL, I2.den, VOp.den, List.getD_cons_zero, List.getD_cons_succ, Cst.den, syso, syse, syio, sybo, zpb_okr, List.map_nil, List.map_cons, B2.ofInts, B2.denI, B2.denB, if_true, Bool.false_eq_true, if_false, Nat.div_one, Nat.mul_one, Nat.add_zero, holds] at hc
  simp only [patsTyp, patTyp, patTypL, zpE, denV, denL, List.getD_cons_zero, List.getD_cons_succ, and_true, true_and] at hty
  have hL_l : typ (.sl (.cons (.int .u8) .nil)) l := by first | exact hty | exact hty.1 | exact hty.2 | exact hty.1.1 | exact hty.1.2 | exact hty.2.1 | exact hty.2.2 | exact hty.2.2.1 | exact hty.2.2.2
  have hN_l := typ_len (n := 1) hL_l rfl (by omega)
  simp only [Nat.div_one, Nat.mul_one] at hN_l
  unfold rtk8_tree
  simp only [Tree.holds, Sy.holds, AllN, Env.more, zpE, List.cons_append, List.nil_append, List.append_nil, denV, denI, denB, denL, I2.den, VOp.den, List.getD_cons_zero, List.getD_cons_succ, Cst.den, syso, syse, syio, sybo, zpi_rn, zpb_rs, zpv_rl, List.map_nil, List.map_cons, B2.ofInts, B2.denI, B2.denB, if_true, Bool.false_eq_true, if_false, Nat.div_one, Nat.mul_one, Nat.add_zero]
  have hl := byL_len (Sy.rows l)
  have hB := isB_typ hty hc.1
  refine ⟨fun h0 => ?_, fun h0 => ?_⟩
  ·
   first
   | (exfalso; exact hc.2 h0)
   | (
      simp only [t8, t1, getL, getS, getV, if_neg (show ¬ 8 ≤ (byL (Sy.rows l)).length by omega)]
      rfl)
   | (
      have hs : s = false := by cases s; rfl; exact absurd rfl hc.2
      have e1 := getL_map hB (k := 8) (by omega)
      have e3 := take8_val hB (by omega)
      have b0 := gB_rng hB (j := 0) (by omega)
      have g0 : Go.RowKit.intOf ((Sy.rows l).getD (Int.toNat 0) Go.undef) = gB (Sy.rows l) 0 := rfl
      have u0 : IntKind.wrap .u64 (gB (Sy.rows l) 0) = gB (Sy.rows l) 0 := by rw [wrap_u64]; omega
      have b1 := gB_rng hB (j := 1) (by omega)
      have g1 : Go.RowKit.intOf ((Sy.rows l).getD (Int.toNat 1) Go.undef) = gB (Sy.rows l) 1 := rfl
      have u1 : IntKind.wrap .u64 (gB (Sy.rows l) 1) = gB (Sy.rows l) 1 := by rw [wrap_u64]; omega
      have b2 := gB_rng hB (j := 2) (by omega)
      have g2 : Go.RowKit.intOf ((Sy.rows l).getD (Int.toNat 2) Go.undef) = gB (Sy.rows l) 2 := rfl
      have u2 : IntKind.wrap .u64 (gB (Sy.rows l) 2) = gB (Sy.rows l) 2 := by rw [wrap_u64]; omega
      have b3 := gB_rng hB (j := 3) (by omega)
      have g3 : Go.RowKit.intOf ((Sy.rows l).getD (Int.toNat 3) Go.undef) = gB (Sy.rows l) 3 := rfl
      have u3 : IntKind.wrap .u64 (gB (Sy.rows l) 3) = gB (Sy.rows l) 3 := by rw [wrap_u64]; omega
      have b4 := gB_rng hB (j := 4) (by omega)
      have g4 : Go.RowKit.intOf ((Sy.rows l).getD (Int.toNat 4) Go.undef) = gB (Sy.rows l) 4 := rfl
      have u4 : IntKind.wrap .u64 (gB (Sy.rows l) 4) = gB (Sy.rows l) 4 := by rw [wrap_u64]; omega
      have b5 := gB_rng hB (j := 5) (by omega)
      have g5 : Go.RowKit.intOf ((Sy.rows l).getD (Int.toNat 5) Go.undef) = gB (Sy.rows l) 5 := rfl
      have u5 : IntKind.wrap .u64 (gB (Sy.rows l) 5) = gB (Sy.rows l) 5 := by rw [wrap_u64]; omega
      have b6 := gB_rng hB (j := 6) (by omega)
      have g6 : Go.RowKit.intOf ((Sy.rows l).getD (Int.toNat 6) Go.undef) = gB (Sy.rows l) 6 := rfl
      have u6 : IntKind.wrap .u64 (gB (Sy.rows l) 6) = gB (Sy.rows l) 6 := by rw [wrap_u64]; omega
      have b7 := gB_rng hB (j := 7) (by omega)
      have g7 : Go.RowKit.intOf ((Sy.rows l).getD (Int.toNat 7) Go.undef) = gB (Sy.rows l) 7 := rfl
      have u7 : IntKind.wrap .u64 (gB (Sy.rows l) 7) = gB (Sy.rows l) 7 := by rw [wrap_u64]; omega
      simp only [g0, g1, g2, g3, g4, g5, g6, g7, u0, u1, u2, u3, u4, u5, u6, u7, t8, Int.toNat_natCast, List.take_length]
      rw [e1, e3, hs]
      have eS : getS (byL (Sy.rows l)) false 8 = false := by unfold getS; rw [if_pos (by omega)]
      rw [eS]
      obtain ⟨y7, hy7⟩ : ∃ y, y = gB (Sy.rows l) 7 := ⟨_, rfl⟩
      have r7 : 0 ≤ y7 ∧ y7 ≤ 255 := by omega
      have c7 : IntKind.wrap .u64 (0 + gB (Sy.rows l) 7) = y7 := by rw [wrap_u64]; omega
      simp only [c7]
      obtain ⟨y6, hy6⟩ : ∃ y, y = 256 * y7 + gB (Sy.rows l) 6 := ⟨_, rfl⟩
      have r6 : 0 ≤ y6 ∧ y6 ≤ 65535 := by omega
      have c6 : IntKind.wrap .u64 (IntKind.wrap .u64 (256 * y7) + gB (Sy.rows l) 6) = y6 := by rw [wrap_u64, wrap_u64]; omega
      simp only [c6]
      obtain ⟨y5, hy5⟩ : ∃ y, y = 256 * y6 + gB (Sy.rows l) 5 := ⟨_, rfl⟩
      have r5 : 0 ≤ y5 ∧ y5 ≤ 16777215 := by omega
      have c5 : IntKind.wrap .u64 (IntKind.wrap .u64 (256 * y6) + gB (Sy.rows l) 5) = y5 := by rw [wrap_u64, wrap_u64]; omega
      simp only [c5]
      obtain ⟨y4, hy4⟩ : ∃ y, y = 256 * y5 + gB (Sy.rows l) 4 := ⟨_, rfl⟩
      have r4 : 0 ≤ y4 ∧ y4 ≤ 4294967295 := by omega
      have c4 : IntKind.wrap .u64 (IntKind.wrap .u64 (256 * y5) + gB (Sy.rows l) 4) = y4 := by rw [wrap_u64, wrap_u64]; omega
      simp only [c4]
      obtain ⟨y3, hy3⟩ : ∃ y, y = 256 * y4 + gB (Sy.rows l) 3 := ⟨_, rfl⟩
      have r3 : 0 ≤ y3 ∧ y3 ≤ 1099511627775 := by omega
      have c3 : IntKind.wrap .u64 (IntKind.wrap .u64 (256 * y4) + gB (Sy.rows l) 3) = y3 := by rw [wrap_u64, wrap_u64]; omega
      simp only [c3]
      obtain ⟨y2, hy2⟩ : ∃ y, y = 256 * y3 + gB (Sy.rows l) 2 := ⟨_, rfl⟩
      have r2 : 0 ≤ y2 ∧ y2 ≤ 281474976710655 := by omega
      have c2 : IntKind.wrap .u64 (IntKind.wrap .u64 (256 * y3) + gB (Sy.rows l) 2) = y2 := by rw [wrap_u64, wrap_u64]; omega
      simp only [c2]
      obtain ⟨y1, hy1⟩ : ∃ y, y = 256 * y2 + gB (Sy.rows l) 1 := ⟨_, rfl⟩
      have r1 : 0 ≤ y1 ∧ y1 ≤ 72057594037927935 := by omega
      have c1 : IntKind.wrap .u64 (IntKind.wrap .u64 (256 * y2) + gB (Sy.rows l) 1) = y1 := by rw [wrap_u64, wrap_u64]; omega
      simp only [c1]
      obtain ⟨y0, hy0⟩ : ∃ y, y = 256 * y1 + gB (Sy.rows l) 0 := ⟨_, rfl⟩
      have r0 : 0 ≤ y0 ∧ y0 ≤ 18446744073709551615 := by omega
      have c0 : IntKind.wrap .u64 (IntKind.wrap .u64 (256 * y1) + gB (Sy.rows l) 0) = y0 := by rw [wrap_u64, wrap_u64]; omega
      simp only [c0]
      have hf : y0 = gB (Sy.rows l) 0 + 256 * (gB (Sy.rows l) 1 + 256 * (gB (Sy.rows l) 2 + 256 * (gB (Sy.rows l) 3 + 256 * (gB (Sy.rows l) 4 + 256 * (gB (Sy.rows l) 5 + 256 * (gB (Sy.rows l) 6 + 256 * (gB (Sy.rows l) 7))))))) := by omega
      rw [hf])
  ·
   refine ⟨fun h1 => ?_, fun h1 => ?_⟩
   ·
    first
    | (exfalso; exact hc.2 h0)
    | (
       simp only [t8, t1, getL, getS, getV, if_neg (show ¬ 8 ≤ (byL (Sy.rows l)).length by omega)]
       rfl)
    | (
       have hs : s = false := by cases s; rfl; exact absurd rfl hc.2
       have e1 := getL_map hB (k := 8) (by omega)
       have e3 := take8_val hB (by omega)
       have b0 := gB_rng hB (j := 0) (by omega)
       have g0 : Go.RowKit.intOf ((Sy.rows l).getD (Int.toNat 0) Go.undef) = gB (Sy.rows l) 0 := rfl
       have u0 : IntKind.wrap .u64 (gB (Sy.rows l) 0) = gB (Sy.rows l) 0 := by rw [wrap_u64]; omega
       have b1 := gB_rng hB (j := 1) (by omega)
       have g1 : Go.RowKit.intOf ((Sy.rows l).getD (Int.toNat 1) Go.undef) = gB (Sy.rows l) 1 := rfl
       have u1 : IntKind.wrap .u64 (gB (Sy.rows l) 1) = gB (Sy.rows l) 1 := by rw [wrap_u64]; omega
       have b2 := gB_rng hB (j := 2) (by omega)
       have g2 : Go.RowKit.intOf ((Sy.rows l).getD (Int.toNat 2) Go.undef) = gB (Sy.rows l) 2 := rfl
       have u2 : IntKind.wrap .u64 (gB (Sy.rows l) 2) = gB (Sy.rows l) 2 := by rw [wrap_u64]; omega
       have b3 := gB_rng hB (j := 3) (by omega)
       have g3 : Go.RowKit.intOf ((Sy.rows l).getD (Int.toNat 3) Go.undef) = gB (Sy.rows l) 3 := rfl
       have u3 : IntKind.wrap .u64 (gB (Sy.rows l) 3) = gB (Sy.rows l) 3 := by rw [wrap_u64]; omega
       have b4 := gB_rng hB (j := 4) (by omega)
       have g4 : Go.RowKit.intOf ((Sy.rows l).getD (Int.toNat 4) Go.undef) = gB (Sy.rows l) 4 := rfl
       have u4 : IntKind.wrap .u64 (gB (Sy.rows l) 4) = gB (Sy.rows l) 4 := by rw [wrap_u64]; omega
       have b5 := gB_rng hB (j := 5) (by omega)
       have g5 : Go.RowKit.intOf ((Sy.rows l).getD (Int.toNat 5) Go.undef) = gB (Sy.rows l) 5 := rfl
       have u5 : IntKind.wrap .u64 (gB (Sy.rows l) 5) = gB (Sy.rows l) 5 := by rw [wrap_u64]; omega
       have b6 := gB_rng hB (j := 6) (by omega)
       have g6 : Go.RowKit.intOf ((Sy.rows l).getD (Int.toNat 6) Go.undef) = gB (Sy.rows l) 6 := rfl
       have u6 : IntKind.wrap .u64 (gB (Sy.rows l) 6) = gB (Sy.rows l) 6 := by rw [wrap_u64]; omega
       have b7 := gB_rng hB (j := 7) (by omega)
       have g7 : Go.RowKit.intOf ((Sy.rows l).getD (Int.toNat 7) Go.undef) = gB (Sy.rows l) 7 := rfl
       have u7 : IntKind.wrap .u64 (gB (Sy.rows l) 7) = gB (Sy.rows l) 7 := by rw [wrap_u64]; omega
       simp only [g0, g1, g2, g3, g4, g5, g6, g7, u0, u1, u2, u3, u4, u5, u6, u7, t8, Int.toNat_natCast, List.take_length]
       rw [e1, e3, hs]
       have eS : getS (byL (Sy.rows l)) false 8 = false := by unfold getS; rw [if_pos (by omega)]
       rw [eS]
       obtain ⟨y7, hy7⟩ : ∃ y, y = gB (Sy.rows l) 7 := ⟨_, rfl⟩
       have r7 : 0 ≤ y7 ∧ y7 ≤ 255 := by omega
       have c7 : IntKind.wrap .u64 (0 + gB (Sy.rows l) 7) = y7 := by rw [wrap_u64]; omega
       simp only [c7]
       obtain ⟨y6, hy6⟩ : ∃ y, y = 256 * y7 + gB (Sy.rows l) 6 := ⟨_, rfl⟩
       have r6 : 0 ≤ y6 ∧ y6 ≤ 65535 := by omega
       have c6 : IntKind.wrap .u64 (IntKind.wrap .u64 (256 * y7) + gB (Sy.rows l) 6) = y6 := by rw [wrap_u64, wrap_u64]; omega
       simp only [c6]
       obtain ⟨y5, hy5⟩ : ∃ y, y = 256 * y6 + gB (Sy.rows l) 5 := ⟨_, rfl⟩
       have r5 : 0 ≤ y5 ∧ y5 ≤ 16777215 := by omega
       have c5 : IntKind.wrap .u64 (IntKind.wrap .u64 (256 * y6) + gB (Sy.rows l) 5) = y5 := by rw [wrap_u64, wrap_u64]; omega
       simp only [c5]
       obtain ⟨y4, hy4⟩ : ∃ y, y = 256 * y5 + gB (Sy.rows l) 4 := ⟨_, rfl⟩
       have r4 : 0 ≤ y4 ∧ y4 ≤ 4294967295 := by omega
       have c4 : IntKind.wrap .u64 (IntKind.wrap .u64 (256 * y5) + gB (Sy.rows l) 4) = y4 := by rw [wrap_u64, wrap_u64]; omega
       simp only [c4]
       obtain ⟨y3, hy3⟩ : ∃ y, y = 256 * y4 + gB (Sy.rows l) 3 := ⟨_, rfl⟩
       have r3 : 0 ≤ y3 ∧ y3 ≤ 1099511627775 := by omega
       have c3 : IntKind.wrap .u64 (IntKind.wrap .u64 (256 * y4) + gB (Sy.rows l) 3) = y3 := by rw [wrap_u64, wrap_u64]; omega
       simp only [c3]
       obtain ⟨y2, hy2⟩ : ∃ y, y = 256 * y3 + gB (Sy.rows l) 2 := ⟨_, rfl⟩
       have r2 : 0 ≤ y2 ∧ y2 ≤ 281474976710655 := by omega
       have c2 : IntKind.wrap .u64 (IntKind.wrap .u64 (256 * y3) + gB (Sy.rows l) 2) = y2 := by rw [wrap_u64, wrap_u64]; omega
       simp only [c2]
       obtain ⟨y1, hy1⟩ : ∃ y, y = 256 * y2 + gB (Sy.rows l) 1 := ⟨_, rfl⟩
       have r1 : 0 ≤ y1 ∧ y1 ≤ 72057594037927935 := by omega
       have c1 : IntKind.wrap .u64 (IntKind.wrap .u64 (256 * y2) + gB (Sy.rows l) 1) = y1 := by rw [wrap_u64, wrap_u64]; omega
       simp only [c1]
       obtain ⟨y0, hy0⟩ : ∃ y, y = 256 * y1 + gB (Sy.rows l) 0 := ⟨_, rfl⟩
       have r0 : 0 ≤ y0 ∧ y0 ≤ 18446744073709551615 := by omega
       have c0 : IntKind.wrap .u64 (IntKind.wrap .u64 (256 * y1) + gB (Sy.rows l) 0) = y0 := by rw [wrap_u64, wrap_u64]; omega
       simp only [c0]
       have hf : y0 = gB (Sy.rows l) 0 + 256 * (gB (Sy.rows l) 1 + 256 * (gB (Sy.rows l) 2 + 256 * (gB (Sy.rows l) 3 + 256 * (gB (Sy.rows l) 4 + 256 * (gB (Sy.rows l) 5 + 256 * (gB (Sy.rows l) 6 + 256 * (gB (Sy.rows l) 7))))))) := by omega
       rw [hf])
   ·
    refine ⟨?_, fun h2 => ?_⟩
    ·
     omega
    ·
     refine ⟨?_, fun h3 => ?_⟩
     ·
      omega
     ·
      refine ⟨?_, fun h4 => ?_⟩
      ·
       omega
      ·
       refine ⟨?_, fun h5 => ?_⟩
       ·
        omega
       ·
        refine ⟨?_, fun h6 => ?_⟩
        ·
         omega
        ·
         refine ⟨?_, fun h7 => ?_⟩
         ·
          omega
         ·
          refine ⟨?_, fun h8 => ?_⟩
          ·
           omega
          ·
           refine ⟨?_, fun h9 => ?_⟩
           ·
            omega
           ·
            refine ⟨?_, fun h10 => ?_⟩
            ·
             omega
            ·
             first
             | (exfalso; exact hc.2 h0)
             | (
                simp only [t8, t1, getL, getS, getV, if_neg (show ¬ 8 ≤ (byL (Sy.rows l)).length by omega)]
                rfl)
             | (
                have hs : s = false := by cases s; rfl; exact absurd rfl hc.2
                have e1 := getL_map hB (k := 8) (by omega)
                have e3 := take8_val hB (by omega)
                have b0 := gB_rng hB (j := 0) (by omega)
                have g0 : Go.RowKit.intOf ((Sy.rows l).getD (Int.toNat 0) Go.undef) = gB (Sy.rows l) 0 := rfl
                have u0 : IntKind.wrap .u64 (gB (Sy.rows l) 0) = gB (Sy.rows l) 0 := by rw [wrap_u64]; omega
                have b1 := gB_rng hB (j := 1) (by omega)
                have g1 : Go.RowKit.intOf ((Sy.rows l).getD (Int.toNat 1) Go.undef) = gB (Sy.rows l) 1 := rfl
                have u1 : IntKind.wrap .u64 (gB (Sy.rows l) 1) = gB (Sy.rows l) 1 := by rw [wrap_u64]; omega
                have b2 := gB_rng hB (j := 2) (by omega)
                have g2 : Go.RowKit.intOf ((Sy.rows l).getD (Int.toNat 2) Go.undef) = gB (Sy.rows l) 2 := rfl
                have u2 : IntKind.wrap .u64 (gB (Sy.rows l) 2) = gB (Sy.rows l) 2 := by rw [wrap_u64]; omega
                have b3 := gB_rng hB (j := 3) (by omega)
                have g3 : Go.RowKit.intOf ((Sy.rows l).getD (Int.toNat 3) Go.undef) = gB (Sy.rows l) 3 := rfl
                have u3 : IntKind.wrap .u64 (gB (Sy.rows l) 3) = gB (Sy.rows l) 3 := by rw [wrap_u64]; omega
                have b4 := gB_rng hB (j := 4) (by omega)
                have g4 : Go.RowKit.intOf ((Sy.rows l).getD (Int.toNat 4) Go.undef) = gB (Sy.rows l) 4 := rfl
                have u4 : IntKind.wrap .u64 (gB (Sy.rows l) 4) = gB (Sy.rows l) 4 := by rw [wrap_u64]; omega
                have b5 := gB_rng hB (j := 5) (by omega)
                have g5 : Go.RowKit.intOf ((Sy.rows l).getD (Int.toNat 5) Go.undef) = gB (Sy.rows l) 5 := rfl
                have u5 : IntKind.wrap .u64 (gB (Sy.rows l) 5) = gB (Sy.rows l) 5 := by rw [wrap_u64]; omega
                have b6 := gB_rng hB (j := 6) (by omega)
                have g6 : Go.RowKit.intOf ((Sy.rows l).getD (Int.toNat 6) Go.undef) = gB (Sy.rows l) 6 := rfl
                have u6 : IntKind.wrap .u64 (gB (Sy.rows l) 6) = gB (Sy.rows l) 6 := by rw [wrap_u64]; omega
                have b7 := gB_rng hB (j := 7) (by omega)
                have g7 : Go.RowKit.intOf ((Sy.rows l).getD (Int.toNat 7) Go.undef) = gB (Sy.rows l) 7 := rfl
                have u7 : IntKind.wrap .u64 (gB (Sy.rows l) 7) = gB (Sy.rows l) 7 := by rw [wrap_u64]; omega
                simp only [g0, g1, g2, g3, g4, g5, g6, g7, u0, u1, u2, u3, u4, u5, u6, u7, t8, Int.toNat_natCast, List.take_length]
                rw [e1, e3, hs]
                have eS : getS (byL (Sy.rows l)) false 8 = false := by unfold getS; rw [if_pos (by omega)]
                rw [eS]
                obtain ⟨y7, hy7⟩ : ∃ y, y = gB (Sy.rows l) 7 := ⟨_, rfl⟩
                have r7 : 0 ≤ y7 ∧ y7 ≤ 255 := by omega
                have c7 : IntKind.wrap .u64 (0 + gB (Sy.rows l) 7) = y7 := by rw [wrap_u64]; omega
                simp only [c7]
                obtain ⟨y6, hy6⟩ : ∃ y, y = 256 * y7 + gB (Sy.rows l) 6 := ⟨_, rfl⟩
                have r6 : 0 ≤ y6 ∧ y6 ≤ 65535 := by omega
                have c6 : IntKind.wrap .u64 (IntKind.wrap .u64 (256 * y7) + gB (Sy.rows l) 6) = y6 := by rw [wrap_u64, wrap_u64]; omega
                simp only [c6]
                obtain ⟨y5, hy5⟩ : ∃ y, y = 256 * y6 + gB (Sy.rows l) 5 := ⟨_, rfl⟩
                have r5 : 0 ≤ y5 ∧ y5 ≤ 16777215 := by omega
                have c5 : IntKind.wrap .u64 (IntKind.wrap .u64 (256 * y6) + gB (Sy.rows l) 5) = y5 := by rw [wrap_u64, wrap_u64]; omega
                simp only [c5]
                obtain ⟨y4, hy4⟩ : ∃ y, y = 256 * y5 + gB (Sy.rows l) 4 := ⟨_, rfl⟩
                have r4 : 0 ≤ y4 ∧ y4 ≤ 4294967295 := by omega
                have c4 : IntKind.wrap .u64 (IntKind.wrap .u64 (256 * y5) + gB (Sy.rows l) 4) = y4 := by rw [wrap_u64, wrap_u64]; omega
                simp only [c4]
                obtain ⟨y3, hy3⟩ : ∃ y, y = 256 * y4 + gB (Sy.rows l) 3 := ⟨_, rfl⟩
                have r3 : 0 ≤ y3 ∧ y3 ≤ 1099511627775 := by omega
                have c3 : IntKind.wrap .u64 (IntKind.wrap .u64 (256 * y4) + gB (Sy.rows l) 3) = y3 := by rw [wrap_u64, wrap_u64]; omega
                simp only [c3]
                obtain ⟨y2, hy2⟩ : ∃ y, y = 256 * y3 + gB (Sy.rows l) 2 := ⟨_, rfl⟩
                have r2 : 0 ≤ y2 ∧ y2 ≤ 281474976710655 := by omega
                have c2 : IntKind.wrap .u64 (IntKind.wrap .u64 (256 * y3) + gB (Sy.rows l) 2) = y2 := by rw [wrap_u64, wrap_u64]; omega
                simp only [c2]
                obtain ⟨y1, hy1⟩ : ∃ y, y = 256 * y2 + gB (Sy.rows l) 1 := ⟨_, rfl⟩
                have r1 : 0 ≤ y1 ∧ y1 ≤ 72057594037927935 := by omega
                have c1 : IntKind.wrap .u64 (IntKind.wrap .u64 (256 * y2) + gB (Sy.rows l) 1) = y1 := by rw [wrap_u64, wrap_u64]; omega
                simp only [c1]
                obtain ⟨y0, hy0⟩ : ∃ y, y = 256 * y1 + gB (Sy.rows l) 0 := ⟨_, rfl⟩
                have r0 : 0 ≤ y0 ∧ y0 ≤ 18446744073709551615 := by omega
                have c0 : IntKind.wrap .u64 (IntKind.wrap .u64 (256 * y1) + gB (Sy.rows l) 0) = y0 := by rw [wrap_u64, wrap_u64]; omega
                simp only [c0]
                have hf : y0 = gB (Sy.rows l) 0 + 256 * (gB (Sy.rows l) 1 + 256 * (gB (Sy.rows l) 2 + 256 * (gB (Sy.rows l) 3 + 256 * (gB (Sy.rows l) 4 + 256 * (gB (Sy.rows l) 5 + 256 * (gB (Sy.rows l) 6 + 256 * (gB (Sy.rows l) 7))))))) := by omega
                rw [hf])
theorem zpg_rtk8 : zpc_rtk8.Good Try.prog syG (zpE [] [] [] []) := good_of_walk (Γ := ⟨[], syG, [], [], []⟩) (ρ := zpE [] [] [] []) sym rtk8_w rfl (fun _ _ _ _ => ok_nil) (fun s l hc hty => rtk8_h s l hc hty)
def rnum_tree : Tree :=
 (.need (.bapp 0 (.cons o0_ .nil))
 (.ret (.int .u64 (.iapp 0 (.cons o0_ (.cons (.int .i64 (.lit 8)) .nil))))))
abbrev zpc_rnum : Con := ⟨33, [(.hs .no (.cons (.int .u8) .nil) o0_)], (.bapp 0 (.cons o0_ .nil)), (.int .u64 (.iapp 0 (.cons o0_ (.cons (.int .i64 (.lit 8)) .nil)))), ⟨0, 0, 1, 0⟩, none⟩
theorem rnum_w : walk Try.prog 102 ⟨[zpc_rtk8], syG, [], [], []⟩ [] .v zpc_rnum zpc_rnum.n 3000 = some rnum_tree := by kernel_rfl
theorem rnum_h (l : Value) (hc : holds (zpE [] [] [l] []) (.bapp 0 (.cons o0_ .nil))) (hty : patsTyp (zpE [] [] [l] []) [(.hs .no (.cons (.int .u8) .nil) o0_)]) : rnum_tree.holds (fun v_ => v_ = denV (zpE [] [] [l] []) b0 (.int .u64 (.iapp 0 (.cons o0_ (.cons (.int .i64 (.lit 8)) .nil))))) (zpE [] [] [l] []) := by
  simp only [Tree.holds, Sy.holds, AllN, Env.more, zpE, List.cons_append, List.nil_append, List.append_nil, denV, denI, denB, denL, I2.den, VOp.den, List.getD_cons_zero, List.getD_cons_succ, Cst.den, syso, syse, syio, sybo, zpb_okr, List.map_nil, List.map_cons, B2.ofInts, B2.denI, B2.denB, if_true, Bool.false_eq_true, if_false, Nat.div_one, Nat.mul_one, Nat.add_zero, holds] at hc
  simp only [patsTyp, patTyp, patTypL, zpE, denV, denL, List.getD_cons_zero, List.getD_cons_succ, and_true, true_and] at hty
  have hL_l : typ (.sl (.cons (.int .u8) .nil)) l := by first | exact hty | exact hty.1 | exact hty.2 | exact hty.1.1 | exact hty.1.2 | exact hty.2.1 | exact hty.2.2 | exact hty.2.2.1 | exact hty.2.2.2
  have hN_l := typ_len (n := 1) hL_l rfl (by omega)
  simp only [Nat.div_one, Nat.mul_one] at hN_l
  unfold rnum_tree
  simp only [Tree.holds, Sy.holds, AllN, Env.more, zpE, List.cons_append, List.nil_append, List.append_nil, denV, denI, denB, denL, I2.den, VOp.den, List.getD_cons_zero, List.getD_cons_succ, Cst.den, syso, syse, syio, sybo, zpi_rn, zpb_okr, List.map_nil, List.map_cons, B2.ofInts, B2.denI, B2.denB, if_true, Bool.false_eq_true, if_false, Nat.div_one, Nat.mul_one, Nat.add_zero]
  refine ⟨?_, fun h0 => ?_⟩
  ·
   first
   | exact ⟨hc, by simp⟩
   | omega
  ·
   first
   | exact True.intro
   | rfl
theorem zpg_rnum : zpc_rnum.Good Try.prog syG (zpE [] [] [] []) := good_of_walk (Γ := ⟨[zpc_rtk8], syG, [], [], []⟩) (ρ := zpE [] [] [] []) sym rnum_w rfl (fun _ _ _ _ => (ok_cons (Con.Good.env zpg_rtk8 _ _ _ _) ok_nil)) (fun l hc hty => rnum_h l hc hty)
def rot13_tree : Tree :=
 (.ret (.int .u64 (.i2 (.bits .or .u64) (.i2 (.shl .u64) v0_ (.lit 13)) (.i2 (.shr .u64) v0_ (.lit 51)))))
abbrev zpc_rot13 : Con := ⟨50, [(.int .u64 v0_), (.int .i64 (.lit 13))], (an_ (le_ (.lit 0) v0_) (le_ v0_ (.lit 18446744073709551615))), (.int .u64 (.iapp 10 (.cons (.int .u64 v0_) (.cons (.int .i64 (.lit 13)) .nil)))), ⟨1, 0, 0, 0⟩, none⟩
theorem rot13_w : walk Try.prog 102 ⟨[], syG, [], [], []⟩ [] .v zpc_rot13 zpc_rot13.n 3000 = some rot13_tree := by kernel_rfl
theorem rot13_h (x : Int) (hc : holds (zpE [x] [] [] []) (an_ (le_ (.lit 0) v0_) (le_ v0_ (.lit 18446744073709551615)))) (hty : patsTyp (zpE [x] [] [] []) [(.int .u64 v0_), (.int .i64 (.lit 13))]) : rot13_tree.holds (fun v_ => v_ = denV (zpE [x] [] [] []) b0 (.int .u64 (.iapp 10 (.cons (.int .u64 v0_) (.cons (.int .i64 (.lit 13)) .nil))))) (zpE [x] [] [] []) := by
  simp only [Tree.holds, Sy.holds, AllN, Env.more, zpE, List.cons_append, List.nil_append, List.append_nil, denV, denI, denB, denL, I2.den, VOp.den, List.getD_cons_zero, List.getD_cons_succ, Cst.den, syso, syse, syio, sybo, List.map_nil, List.map_cons, B2.ofInts, B2.denI, B2.denB, if_true, Bool.false_eq_true, if_false, Nat.div_one, Nat.mul_one, Nat.add_zero, holds] at hc
  simp only [patsTyp, patTyp, patTypL, zpE, denV, denL, List.getD_cons_zero, List.getD_cons_succ, and_true, true_and] at hty
  unfold rot13_tree
  simp only [Tree.holds, Sy.holds, AllN, Env.more, zpE, List.cons_append, List.nil_append, List.append_nil, denV, denI, denB, denL, I2.den, VOp.den, List.getD_cons_zero, List.getD_cons_succ, Cst.den, syso, syse, syio, sybo, zpi_rt, List.map_nil, List.map_cons, B2.ofInts, B2.denI, B2.denB, if_true, Bool.false_eq_true, if_false, Nat.div_one, Nat.mul_one, Nat.add_zero]
  have hb := or_turn (n := 13) (m := 51) rfl (by decide) hc.1 hc.2
  exact congrArg (Value.int .u64) hb
theorem zpg_rot13 : zpc_rot13.Good Try.prog syG (zpE [] [] [] []) := good_of_walk (Γ := ⟨[], syG, [], [], []⟩) (ρ := zpE [] [] [] []) sym rot13_w rfl (fun _ _ _ _ => ok_nil) (fun x hc hty => rot13_h x hc hty)
def trn13_tree : Tree :=
 (.ret (.int .u64 (.wrap .u64 (ad_ (.i2 (.shl .u64) v0_ (.lit 13)) (.i2 (.shr .u64) v0_ (.lit 51))))))
abbrev zpc_trn13 : Con := ⟨52, [(.int .u64 v0_), (.int .u64 (.lit 13))], (an_ (le_ (.lit 0) v0_) (le_ v0_ (.lit 18446744073709551615))), (.int .u64 (.iapp 10 (.cons (.int .u64 v0_) (.cons (.int .i64 (.lit 13)) .nil)))), ⟨1, 0, 0, 0⟩, none⟩
theorem trn13_w : walk Try.prog 102 ⟨[], syG, [], [], []⟩ [] .v zpc_trn13 zpc_trn13.n 3000 = some trn13_tree := by kernel_rfl
theorem trn13_h (x : Int) (hc : holds (zpE [x] [] [] []) (an_ (le_ (.lit 0) v0_) (le_ v0_ (.lit 18446744073709551615)))) (hty : patsTyp (zpE [x] [] [] []) [(.int .u64 v0_), (.int .u64 (.lit 13))]) : trn13_tree.holds (fun v_ => v_ = denV (zpE [x] [] [] []) b0 (.int .u64 (.iapp 10 (.cons (.int .u64 v0_) (.cons (.int .i64 (.lit 13)) .nil))))) (zpE [x] [] [] []) := by
  simp only [Tree.holds, Sy.holds, AllN, Env.more, zpE, List.cons_append, List.nil_append, List.append_nil, denV, denI, denB, denL, I2.den, VOp.den, List.getD_cons_zero, List.getD_cons_succ, Cst.den, syso, syse, syio, sybo, List.map_nil, List.map_cons, B2.ofInts, B2.denI, B2.denB, if_true, Bool.false_eq_true, if_false, Nat.div_one, Nat.mul_one, Nat.add_zero, holds] at hc
  simp only [patsTyp, patTyp, patTypL, zpE, denV, denL, List.getD_cons_zero, List.getD_cons_succ, and_true, true_and] at hty
  unfold trn13_tree
  simp only [Tree.holds, Sy.holds, AllN, Env.more, zpE, List.cons_append, List.nil_append, List.append_nil, denV, denI, denB, denL, I2.den, VOp.den, List.getD_cons_zero, List.getD_cons_succ, Cst.den, syso, syse, syio, sybo, zpi_rt, List.map_nil, List.map_cons, B2.ofInts, B2.denI, B2.denB, if_true, Bool.false_eq_true, if_false, Nat.div_one, Nat.mul_one, Nat.add_zero]
  refine congrArg (Value.int .u64) ?_
  rw [show (Int.toNat 13) = 13 from rfl, rl13]
  first
  | (rw [fdp x 2251799813685248 (by decide) (by decide), wrap_u64, wrap_u64, show (2 : Int) ^ min 13 IntKind.u64.bits = 8192 from rfl]
     omega)
  | (rw [fdp x 2251799813685248 (by decide) (by decide)]
     omega)
theorem zpg_trn13 : zpc_trn13.Good Try.prog syG (zpE [] [] [] []) := good_of_walk (Γ := ⟨[], syG, [], [], []⟩) (ρ := zpE [] [] [] []) sym trn13_w rfl (fun _ _ _ _ => ok_nil) (fun x hc hty => trn13_h x hc hty)
def rot16_tree : Tree :=
 (.ret (.int .u64 (.i2 (.bits .or .u64) (.i2 (.shl .u64) v0_ (.lit 16)) (.i2 (.shr .u64) v0_ (.lit 48)))))
abbrev zpc_rot16 : Con := ⟨50, [(.int .u64 v0_), (.int .i64 (.lit 16))], (an_ (le_ (.lit 0) v0_) (le_ v0_ (.lit 18446744073709551615))), (.int .u64 (.iapp 10 (.cons (.int .u64 v0_) (.cons (.int .i64 (.lit 16)) .nil)))), ⟨1, 0, 0, 0⟩, none⟩
theorem rot16_w : walk Try.prog 102 ⟨[], syG, [], [], []⟩ [] .v zpc_rot16 zpc_rot16.n 3000 = some rot16_tree := by kernel_rfl
theorem rot16_h (x : Int) (hc : holds (zpE [x] [] [] []) (an_ (le_ (.lit 0) v0_) (le_ v0_ (.lit 18446744073709551615)))) (hty : patsTyp (zpE [x] [] [] []) [(.int .u64 v0_), (.int .i64 (.lit 16))]) : rot16_tree.holds (fun v_ => v_ = denV (zpE [x] [] [] []) b0 (.int .u64 (.iapp 10 (.cons (.int .u64 v0_) (.cons (.int .i64 (.lit 16)) .nil))))) (zpE [x] [] [] []) := by
  simp only [Tree.holds, Sy.holds, AllN, Env.more, zpE, List.cons_append, List.nil_append, List.append_nil, denV, denI, denB, denL, I2.den, VOp.den, List.getD_cons_zero, List.getD_cons_succ, Cst.den, syso, syse, syio, sybo, List.map_nil, List.map_cons, B2.ofInts, B2.denI, B2.denB, if_true, Bool.false_eq_true, if_false, Nat.div_one, Nat.mul_one, Nat.add_zero, holds] at hc
  simp only [patsTyp, patTyp, patTypL, zpE, denV, denL, List.getD_cons_zero, List.getD_cons_succ, and_true, true_and] at hty
  unfold rot16_tree
  simp only [Tree.holds, Sy.holds, AllN, Env.more, zpE, List.cons_append, List.nil_append, List.append_nil, denV, denI, denB, denL, I2.den, VOp.den, List.getD_cons_zero, List.getD_cons_succ, Cst.den, syso, syse, syio, sybo, zpi_rt, List.map_nil, List.map_cons, B2.ofInts, B2.denI, B2.denB, if_true, Bool.false_eq_true, if_false, Nat.div_one, Nat.mul_one, Nat.add_zero]
  have hb := or_turn (n := 16) (m := 48) rfl (by decide) hc.1 hc.2
  exact congrArg (Value.int .u64) hb
theorem zpg_rot16 : zpc_rot16.Good Try.prog syG (zpE [] [] [] []) := good_of_walk (Γ := ⟨[], syG, [], [], []⟩) (ρ := zpE [] [] [] []) sym rot16_w rfl (fun _ _ _ _ => ok_nil) (fun x hc hty => rot16_h x hc hty)
def trn16_tree : Tree :=
 (.ret (.int .u64 (.wrap .u64 (ad_ (.i2 (.shl .u64) v0_ (.lit 16)) (.i2 (.shr .u64) v0_ (.lit 48))))))
abbrev zpc_trn16 : Con := ⟨52, [(.int .u64 v0_), (.int .u64 (.lit 16))], (an_ (le_ (.lit 0) v0_) (le_ v0_ (.lit 18446744073709551615))), (.int .u64 (.iapp 10 (.cons (.int .u64 v0_) (.cons (.int .i64 (.lit 16)) .nil)))), ⟨1, 0, 0, 0⟩, none⟩
theorem trn16_w : walk Try.prog 102 ⟨[], syG, [], [], []⟩ [] .v zpc_trn16 zpc_trn16.n 3000 = some trn16_tree := by kernel_rfl
theorem trn16_h (x : Int) (hc : holds (zpE [x] [] [] []) (an_ (le_ (.lit 0) v0_) (le_ v0_ (.lit 18446744073709551615)))) (hty : patsTyp (zpE [x] [] [] []) [(.int .u64 v0_), (.int .u64 (.lit 16))]) : trn16_tree.holds (fun v_ => v_ = denV (zpE [x] [] [] []) b0 (.int .u64 (.iapp 10 (.cons (.int .u64 v0_) (.cons (.int .i64 (.lit 16)) .nil))))) (zpE [x] [] [] []) := by
  simp only [Tree.holds, Sy.holds, AllN, Env.more, zpE, List.cons_append, List.nil_append, List.append_nil, denV, denI, denB, denL, I2.den, VOp.den, List.getD_cons_zero, List.getD_cons_succ, Cst.den, syso, syse, syio, sybo, List.map_nil, List.map_cons, B2.ofInts, B2.denI, B2.denB, if_true, Bool.false_eq_true, if_false, Nat.div_one, Nat.mul_one, Nat.add_zero, holds] at hc
  simp only [patsTyp, patTyp, patTypL, zpE, denV, denL, List.getD_cons_zero, List.getD_cons_succ, and_true, true_and] at hty
  unfold trn16_tree
  simp only [Tree.holds, Sy.holds, AllN, Env.more, zpE, List.cons_append, List.nil_append, List.append_nil, denV, denI, denB, denL, I2.den, VOp.den, List.getD_cons_zero, List.getD_cons_succ, Cst.den, syso, syse, syio, sybo, zpi_rt, List.map_nil, List.map_cons, B2.ofInts, B2.denI, B2.denB, if_true, Bool.false_eq_true, if_false, Nat.div_one, Nat.mul_one, Nat.add_zero]
  refine congrArg (Value.int .u64) ?_
  rw [show (Int.toNat 16) = 16 from rfl, rl16]
  first
  | (rw [fdp x 281474976710656 (by decide) (by decide), wrap_u64, wrap_u64, show (2 : Int) ^ min 16 IntKind.u64.bits = 65536 from rfl]
     omega)
  | (rw [fdp x 281474976710656 (by decide) (by decide)]
     omega)
theorem zpg_trn16 : zpc_trn16.Good Try.prog syG (zpE [] [] [] []) := good_of_walk (Γ := ⟨[], syG, [], [], []⟩) (ρ := zpE [] [] [] []) sym trn16_w rfl (fun _ _ _ _ => ok_nil) (fun x hc hty => trn16_h x hc hty)
def rot17_tree : Tree :=
 (.ret (.int .u64 (.i2 (.bits .or .u64) (.i2 (.shl .u64) v0_ (.lit 17)) (.i2 (.shr .u64) v0_ (.lit 47)))))
abbrev zpc_rot17 : Con := ⟨50, [(.int .u64 v0_), (.int .i64 (.lit 17))], (an_ (le_ (.lit 0) v0_) (le_ v0_ (.lit 18446744073709551615))), (.int .u64 (.iapp 10 (.cons (.int .u64 v0_) (.cons (.int .i64 (.lit 17)) .nil)))), ⟨1, 0, 0, 0⟩, none⟩
theorem rot17_w : walk Try.prog 102 ⟨[], syG, [], [], []⟩ [] .v zpc_rot17 zpc_rot17.n 3000 = some rot17_tree := by kernel_rfl
theorem rot17_h (x : Int) (hc : holds (zpE [x] [] [] []) (an_ (le_ (.lit 0) v0_) (le_ v0_ (.lit 18446744073709551615)))) (hty : patsTyp (zpE [x] [] [] []) [(.int .u64 v0_), (.int .i64 (.lit 17))]) : rot17_tree.holds (fun v_ => v_ = denV (zpE [x] [] [] []) b0 (.int .u64 (.iapp 10 (.cons (.int .u64 v0_) (.cons (.int .i64 (.lit 17)) .nil))))) (zpE [x] [] [] []) := by
  simp only [Tree.holds, Sy.holds, AllN, Env.more, zpE, List.cons_append, List.nil_append, List.append_nil, denV, denI, denB, denL, I2.den, VOp.den, List.getD_cons_zero, List.getD_cons_succ, Cst.den, syso, syse, syio, sybo, List.map_nil, List.map_cons, B2.ofInts, B2.denI, B2.denB, if_true, Bool.false_eq_true, if_false, Nat.div_one, Nat.mul_one, Nat.add_zero, holds] at hc
  simp only [patsTyp, patTyp, patTypL, zpE, denV, denL, List.getD_cons_zero, List.getD_cons_succ, and_true, true_and] at hty
  unfold rot17_tree
  simp only [Tree.holds, Sy.holds, AllN, Env.more, zpE, List.cons_append, List.nil_append, List.append_nil, denV, denI, denB, denL, I2.den, VOp.den, List.getD_cons_zero, List.getD_cons_succ, Cst.den, syso, syse, syio, sybo, zpi_rt, List.map_nil, List.map_cons, B2.ofInts, B2.denI, B2.denB, if_true, Bool.false_eq_true, if_false, Nat.div_one, Nat.mul_one, Nat.add_zero]
  have hb := or_turn (n := 17) (m := 47) rfl (by decide) hc.1 hc.2
  exact congrArg (Value.int .u64) hb
theorem zpg_rot17 : zpc_rot17.Good Try.prog syG (zpE [] [] [] []) := good_of_walk (Γ := ⟨[], syG, [], [], []⟩) (ρ := zpE [] [] [] []) sym rot17_w rfl (fun _ _ _ _ => ok_nil) (fun x hc hty => rot17_h x hc hty)
def trn17_tree : Tree :=
 (.ret (.int .u64 (.wrap .u64 (ad_ (.i2 (.shl .u64) v0_ (.lit 17)) (.i2 (.shr .u64) v0_ (.lit 47))))))
abbrev zpc_trn17 : Con := ⟨52, [(.int .u64 v0_), (.int .u64 (.lit 17))], (an_ (le_ (.lit 0) v0_) (le_ v0_ (.lit 18446744073709551615))), (.int .u64 (.iapp 10 (.cons (.int .u64 v0_) (.cons (.int .i64 (.lit 17)) .nil)))), ⟨1, 0, 0, 0⟩, none⟩
theorem trn17_w : walk Try.prog 102 ⟨[], syG, [], [], []⟩ [] .v zpc_trn17 zpc_trn17.n 3000 = some trn17_tree := by kernel_rfl
theorem trn17_h (x : Int) (hc : holds (zpE [x] [] [] []) (an_ (le_ (.lit 0) v0_) (le_ v0_ (.lit 18446744073709551615)))) (hty : patsTyp (zpE [x] [] [] []) [(.int .u64 v0_), (.int .u64 (.lit 17))]) : trn17_tree.holds (fun v_ => v_ = denV (zpE [x] [] [] []) b0 (.int .u64 (.iapp 10 (.cons (.int .u64 v0_) (.cons (.int .i64 (.lit 17)) .nil))))) (zpE [x] [] [] []) := by
  simp only [Tree.holds, Sy.holds, AllN, Env.more, zpE, List.cons_append, List.nil_append, List.append_nil, denV, denI, denB, denL, I2.den, VOp.den, List.getD_cons_zero, List.getD_cons_succ, Cst.den, syso, syse, syio, sybo, List.map_nil, List.map_cons, B2.ofInts, B2.denI, B2.denB, if_true, Bool.false_eq_true, if_false, Nat.div_one, Nat.mul_one, Nat.add_zero, holds] at hc
  simp only [patsTyp, patTyp, patTypL, zpE, denV, denL, List.getD_cons_zero, List.getD_cons_succ, and_true, true_and] at hty
  unfold trn17_tree
  simp only [Tree.holds, Sy.holds, AllN, Env.more, zpE, List.cons_append, List.nil_append, List.append_nil, denV, denI, denB, denL, I2.den, VOp.den, List.getD_cons_zero, List.getD_cons_succ, Cst.den, syso, syse, syio, sybo, zpi_rt, List.map_nil, List.map_cons, B2.ofInts, B2.denI, B2.denB, if_true, Bool.false_eq_true, if_false, Nat.div_one, Nat.mul_one, Nat.add_zero]
  refine congrArg (Value.int .u64) ?_
  rw [show (Int.toNat 17) = 17 from rfl, rl17]
  first
  | (rw [fdp x 140737488355328 (by decide) (by decide), wrap_u64, wrap_u64, show (2 : Int) ^ min 17 IntKind.u64.bits = 131072 from rfl]
     omega)
  | (rw [fdp x 140737488355328 (by decide) (by decide)]
     omega)
theorem zpg_trn17 : zpc_trn17.Good Try.prog syG (zpE [] [] [] []) := good_of_walk (Γ := ⟨[], syG, [], [], []⟩) (ρ := zpE [] [] [] []) sym trn17_w rfl (fun _ _ _ _ => ok_nil) (fun x hc hty => trn17_h x hc hty)
def rot21_tree : Tree :=
 (.ret (.int .u64 (.i2 (.bits .or .u64) (.i2 (.shl .u64) v0_ (.lit 21)) (.i2 (.shr .u64) v0_ (.lit 43)))))
abbrev zpc_rot21 : Con := ⟨50, [(.int .u64 v0_), (.int .i64 (.lit 21))], (an_ (le_ (.lit 0) v0_) (le_ v0_ (.lit 18446744073709551615))), (.int .u64 (.iapp 10 (.cons (.int .u64 v0_) (.cons (.int .i64 (.lit 21)) .nil)))), ⟨1, 0, 0, 0⟩, none⟩
theorem rot21_w : walk Try.prog 102 ⟨[], syG, [], [], []⟩ [] .v zpc_rot21 zpc_rot21.n 3000 = some rot21_tree := by kernel_rfl
theorem rot21_h (x : Int) (hc : holds (zpE [x] [] [] []) (an_ (le_ (.lit 0) v0_) (le_ v0_ (.lit 18446744073709551615)))) (hty : patsTyp (zpE [x] [] [] []) [(.int .u64 v0_), (.int .i64 (.lit 21))]) : rot21_tree.holds (fun v_ => v_ = denV (zpE [x] [] [] []) b0 (.int .u64 (.iapp 10 (.cons (.int .u64 v0_) (.cons (.int .i64 (.lit 21)) .nil))))) (zpE [x] [] [] []) := by
  simp only [Tree.holds, Sy.holds, AllN, Env.more, zpE, List.cons_append, List.nil_append, List.append_nil, denV, denI, denB, denL, I2.den, VOp.den, List.getD_cons_zero, List.getD_cons_succ, Cst.den, syso, syse, syio, sybo, List.map_nil, List.map_cons, B2.ofInts, B2.denI, B2.denB, if_true, Bool.false_eq_true, if_false, Nat.div_one, Nat.mul_one, Nat.add_zero, holds] at hc
  simp only [patsTyp, patTyp, patTypL, zpE, denV, denL, List.getD_cons_zero, List.getD_cons_succ, and_true, true_and] at hty
  unfold rot21_tree
  simp only [Tree.holds, Sy.holds, AllN, Env.more, zpE, List.cons_append, List.nil_append, List.append_nil, denV, denI, denB, denL, I2.den, VOp.den, List.getD_cons_zero, List.getD_cons_succ, Cst.den, syso, syse, syio, sybo, zpi_rt, List.map_nil, List.map_cons, B2.ofInts, B2.denI, B2.denB, if_true, Bool.false_eq_true, if_false, Nat.div_one, Nat.mul_one, Nat.add_zero]
  have hb := or_turn (n := 21) (m := 43) rfl (by decide) hc.1 hc.2
  exact congrArg (Value.int .u64) hb
theorem zpg_rot21 : zpc_rot21.Good Try.prog syG (zpE [] [] [] []) := good_of_walk (Γ := ⟨[], syG, [], [], []⟩) (ρ := zpE [] [] [] []) sym rot21_w rfl (fun _ _ _ _ => ok_nil) (fun x hc hty => rot21_h x hc hty)
def trn21_tree : Tree :=
 (.ret (.int .u64 (.wrap .u64 (ad_ (.i2 (.shl .u64) v0_ (.lit 21)) (.i2 (.shr .u64) v0_ (.lit 43))))))
abbrev zpc_trn21 : Con := ⟨52, [(.int .u64 v0_), (.int .u64 (.lit 21))], (an_ (le_ (.lit 0) v0_) (le_ v0_ (.lit 18446744073709551615))), (.int .u64 (.iapp 10 (.cons (.int .u64 v0_) (.cons (.int .i64 (.lit 21)) .nil)))), ⟨1, 0, 0, 0⟩, none⟩
theorem trn21_w : walk Try.prog 102 ⟨[], syG, [], [], []⟩ [] .v zpc_trn21 zpc_trn21.n 3000 = some trn21_tree := by kernel_rfl
theorem trn21_h (x : Int) (hc : holds (zpE [x] [] [] []) (an_ (le_ (.lit 0) v0_) (le_ v0_ (.lit 18446744073709551615)))) (hty : patsTyp (zpE [x] [] [] []) [(.int .u64 v0_), (.int .u64 (.lit 21))]) : trn21_tree.holds (fun v_ => v_ = denV (zpE [x] [] [] []) b0 (.int .u64 (.iapp 10 (.cons (.int .u64 v0_) (.cons (.int .i64 (.lit 21)) .nil))))) (zpE [x] [] [] []) := by
  simp only [Tree.holds, Sy.holds, AllN, Env.more, zpE, List.cons_append, List.nil_append, List.append_nil, denV, denI, denB, denL, I2.den, VOp.den, List.getD_cons_zero, List.getD_cons_succ, Cst.den, syso, syse, syio, sybo, List.map_nil, List.map_cons, B2.ofInts, B2.denI, B2.denB, if_true, Bool.false_eq_true, if_false, Nat.div_one, Nat.mul_one, Nat.add_zero, holds] at hc
  simp only [patsTyp, patTyp, patTypL, zpE, denV, denL, List.getD_cons_zero, List.getD_cons_succ, and_true, true_and] at hty
  unfold trn21_tree
  simp only [Tree.holds, Sy.holds, AllN, Env.more, zpE, List.cons_append, List.nil_append, List.append_nil, denV, denI, denB, denL, I2.den, VOp.den, List.getD_cons_zero, List.getD_cons_succ, Cst.den, syso, syse, syio, sybo, zpi_rt, List.map_nil, List.map_cons, B2.ofInts, B2.denI, B2.denB, if_true, Bool.false_eq_true, if_false, Nat.div_one, Nat.mul_one, Nat.add_zero]
  refine congrArg (Value.int .u64) ?_
  rw [show (Int.toNat 21) = 21 from rfl, rl21]
  first
  | (rw [fdp x 8796093022208 (by decide) (by decide), wrap_u64, wrap_u64, show (2 : Int) ^ min 21 IntKind.u64.bits = 2097152 from rfl]
     omega)
  | (rw [fdp x 8796093022208 (by decide) (by decide)]
     omega)
theorem zpg_trn21 : zpc_trn21.Good Try.prog syG (zpE [] [] [] []) := good_of_walk (Γ := ⟨[], syG, [], [], []⟩) (ρ := zpE [] [] [] []) sym trn21_w rfl (fun _ _ _ _ => ok_nil) (fun x hc hty => trn21_h x hc hty)
def rot32_tree : Tree :=
 (.ret (.int .u64 (.i2 (.bits .or .u64) (.i2 (.shl .u64) v0_ (.lit 32)) (.i2 (.shr .u64) v0_ (.lit 32)))))
abbrev zpc_rot32 : Con := ⟨50, [(.int .u64 v0_), (.int .i64 (.lit 32))], (an_ (le_ (.lit 0) v0_) (le_ v0_ (.lit 18446744073709551615))), (.int .u64 (.iapp 10 (.cons (.int .u64 v0_) (.cons (.int .i64 (.lit 32)) .nil)))), ⟨1, 0, 0, 0⟩, none⟩
theorem rot32_w : walk Try.prog 102 ⟨[], syG, [], [], []⟩ [] .v zpc_rot32 zpc_rot32.n 3000 = some rot32_tree := by kernel_rfl
theorem rot32_h (x : Int) (hc : holds (zpE [x] [] [] []) (an_ (le_ (.lit 0) v0_) (le_ v0_ (.lit 18446744073709551615)))) (hty : patsTyp (zpE [x] [] [] []) [(.int .u64 v0_), (.int .i64 (.lit 32))]) : rot32_tree.holds (fun v_ => v_ = denV (zpE [x] [] [] []) b0 (.int .u64 (.iapp 10 (.cons (.int .u64 v0_) (.cons (.int .i64 (.lit 32)) .nil))))) (zpE [x] [] [] []) := by
  simp only [Tree.holds, Sy.holds, AllN, Env.more, zpE, List.cons_append, List.nil_append, List.append_nil, denV, denI, denB, denL, I2.den, VOp.den, List.getD_cons_zero, List.getD_cons_succ, Cst.den, syso, syse, syio, sybo, List.map_nil, List.map_cons, B2.ofInts, B2.denI, B2.denB, if_true, Bool.false_eq_true, if_false, Nat.div_one, Nat.mul_one, Nat.add_zero, holds] at hc
  simp only [patsTyp, patTyp, patTypL, zpE, denV, denL, List.getD_cons_zero, List.getD_cons_succ, and_true, true_and] at hty
  unfold rot32_tree
  simp only [Tree.holds, Sy.holds, AllN, Env.more, zpE, List.cons_append, List.nil_append, List.append_nil, denV, denI, denB, denL, I2.den, VOp.den, List.getD_cons_zero, List.getD_cons_succ, Cst.den, syso, syse, syio, sybo, zpi_rt, List.map_nil, List.map_cons, B2.ofInts, B2.denI, B2.denB, if_true, Bool.false_eq_true, if_false, Nat.div_one, Nat.mul_one, Nat.add_zero]
  have hb := or_turn (n := 32) (m := 32) rfl (by decide) hc.1 hc.2
  exact congrArg (Value.int .u64) hb
theorem zpg_rot32 : zpc_rot32.Good Try.prog syG (zpE [] [] [] []) := good_of_walk (Γ := ⟨[], syG, [], [], []⟩) (ρ := zpE [] [] [] []) sym rot32_w rfl (fun _ _ _ _ => ok_nil) (fun x hc hty => rot32_h x hc hty)
def trn32_tree : Tree :=
 (.ret (.int .u64 (.wrap .u64 (ad_ (.i2 (.shl .u64) v0_ (.lit 32)) (.i2 (.shr .u64) v0_ (.lit 32))))))
abbrev zpc_trn32 : Con := ⟨52, [(.int .u64 v0_), (.int .u64 (.lit 32))], (an_ (le_ (.lit 0) v0_) (le_ v0_ (.lit 18446744073709551615))), (.int .u64 (.iapp 10 (.cons (.int .u64 v0_) (.cons (.int .i64 (.lit 32)) .nil)))), ⟨1, 0, 0, 0⟩, none⟩
theorem trn32_w : walk Try.prog 102 ⟨[], syG, [], [], []⟩ [] .v zpc_trn32 zpc_trn32.n 3000 = some trn32_tree := by kernel_rfl
theorem trn32_h (x : Int) (hc : holds (zpE [x] [] [] []) (an_ (le_ (.lit 0) v0_) (le_ v0_ (.lit 18446744073709551615)))) (hty : patsTyp (zpE [x] [] [] []) [(.int .u64 v0_), (.int .u64 (.lit 32))]) : trn32_tree.holds (fun v_ => v_ = denV (zpE [x] [] [] []) b0 (.int .u64 (.iapp 10 (.cons (.int .u64 v0_) (.cons (.int .i64 (.lit 32)) .nil))))) (zpE [x] [] [] []) := by
  simp only [Tree.holds, Sy.holds, AllN, Env.more, zpE, List.cons_append, List.nil_append, List.append_nil, denV, denI, denB, denL, I2.den, VOp.den, List.getD_cons_zero, List.getD_cons_succ, Cst.den, syso, syse, syio, sybo, List.map_nil, List.map_cons, B2.ofInts, B2.denI, B2.denB, if_true, Bool.false_eq_true, if_false, Nat.div_one, Nat.mul_one, Nat.add_zero, holds] at hc
  simp only [patsTyp, patTyp, patTypL, zpE, denV, denL, List.getD_cons_zero, List.getD_cons_succ, and_true, true_and] at hty
  unfold trn32_tree
  simp only [Tree.holds, Sy.holds, AllN, Env.more, zpE, List.cons_append, List.nil_append, List.append_nil, denV, denI, denB, denL, I2.den, VOp.den, List.getD_cons_zero, List.getD_cons_succ, Cst.den, syso, syse, syio, sybo, zpi_rt, List.map_nil, List.map_cons, B2.ofInts, B2.denI, B2.denB, if_true, Bool.false_eq_true, if_false, Nat.div_one, Nat.mul_one, Nat.add_zero]
  refine congrArg (Value.int .u64) ?_
  rw [show (Int.toNat 32) = 32 from rfl, rl32]
  first
  | (rw [fdp x 4294967296 (by decide) (by decide), wrap_u64, wrap_u64, show (2 : Int) ^ min 32 IntKind.u64.bits = 4294967296 from rfl]
     omega)
  | (rw [fdp x 4294967296 (by decide) (by decide)]
     omega)
theorem zpg_trn32 : zpc_trn32.Good Try.prog syG (zpE [] [] [] []) := good_of_walk (Γ := ⟨[], syG, [], [], []⟩) (ρ := zpE [] [] [] []) sym trn32_w rfl (fun _ _ _ _ => ok_nil) (fun x hc hty => trn32_h x hc hty)
def pround_tree : Tree :=
 (.need (an_ (le_ (.lit 0) v1_) (le_ v1_ (.lit 18446744073709551615)))
 (.need (an_ (le_ (.lit 0) (.wrap .u64 (ad_ v0_ v1_))) (le_ (.wrap .u64 (ad_ v0_ v1_)) (.lit 18446744073709551615)))
 (.need (an_ (le_ (.lit 0) v3_) (le_ v3_ (.lit 18446744073709551615)))
 (.need (an_ (le_ (.lit 0) (.i2 (.bits .xor .u64) (.iapp 10 (.cons (.int .u64 v3_) (.cons (.int .i64 (.lit 16)) .nil))) (.wrap .u64 (ad_ v2_ v3_)))) (le_ (.i2 (.bits .xor .u64) (.iapp 10 (.cons (.int .u64 v3_) (.cons (.int .i64 (.lit 16)) .nil))) (.wrap .u64 (ad_ v2_ v3_))) (.lit 18446744073709551615)))
 (.need (an_ (le_ (.lit 0) (.i2 (.bits .xor .u64) (.iapp 10 (.cons (.int .u64 v1_) (.cons (.int .i64 (.lit 13)) .nil))) (.wrap .u64 (ad_ v0_ v1_)))) (le_ (.i2 (.bits .xor .u64) (.iapp 10 (.cons (.int .u64 v1_) (.cons (.int .i64 (.lit 13)) .nil))) (.wrap .u64 (ad_ v0_ v1_))) (.lit 18446744073709551615)))
 (.need (an_ (le_ (.lit 0) (.wrap .u64 (ad_ (.wrap .u64 (ad_ v2_ v3_)) (.i2 (.bits .xor .u64) (.iapp 10 (.cons (.int .u64 v1_) (.cons (.int .i64 (.lit 13)) .nil))) (.wrap .u64 (ad_ v0_ v1_)))))) (le_ (.wrap .u64 (ad_ (.wrap .u64 (ad_ v2_ v3_)) (.i2 (.bits .xor .u64) (.iapp 10 (.cons (.int .u64 v1_) (.cons (.int .i64 (.lit 13)) .nil))) (.wrap .u64 (ad_ v0_ v1_))))) (.lit 18446744073709551615)))
 (.ret (.agg (.cons (.int .u64 (.wrap .u64 (ad_ (.iapp 10 (.cons (.int .u64 (.wrap .u64 (ad_ v0_ v1_))) (.cons (.int .i64 (.lit 32)) .nil))) (.i2 (.bits .xor .u64) (.iapp 10 (.cons (.int .u64 v3_) (.cons (.int .i64 (.lit 16)) .nil))) (.wrap .u64 (ad_ v2_ v3_)))))) (.cons (.int .u64 (.i2 (.bits .xor .u64) (.iapp 10 (.cons (.int .u64 (.i2 (.bits .xor .u64) (.iapp 10 (.cons (.int .u64 v1_) (.cons (.int .i64 (.lit 13)) .nil))) (.wrap .u64 (ad_ v0_ v1_)))) (.cons (.int .i64 (.lit 17)) .nil))) (.wrap .u64 (ad_ (.wrap .u64 (ad_ v2_ v3_)) (.i2 (.bits .xor .u64) (.iapp 10 (.cons (.int .u64 v1_) (.cons (.int .i64 (.lit 13)) .nil))) (.wrap .u64 (ad_ v0_ v1_))))))) (.cons (.int .u64 (.iapp 10 (.cons (.int .u64 (.wrap .u64 (ad_ (.wrap .u64 (ad_ v2_ v3_)) (.i2 (.bits .xor .u64) (.iapp 10 (.cons (.int .u64 v1_) (.cons (.int .i64 (.lit 13)) .nil))) (.wrap .u64 (ad_ v0_ v1_)))))) (.cons (.int .i64 (.lit 32)) .nil)))) (.cons (.int .u64 (.i2 (.bits .xor .u64) (.iapp 10 (.cons (.int .u64 (.i2 (.bits .xor .u64) (.iapp 10 (.cons (.int .u64 v3_) (.cons (.int .i64 (.lit 16)) .nil))) (.wrap .u64 (ad_ v2_ v3_)))) (.cons (.int .i64 (.lit 21)) .nil))) (.wrap .u64 (ad_ (.iapp 10 (.cons (.int .u64 (.wrap .u64 (ad_ v0_ v1_))) (.cons (.int .i64 (.lit 32)) .nil))) (.i2 (.bits .xor .u64) (.iapp 10 (.cons (.int .u64 v3_) (.cons (.int .i64 (.lit 16)) .nil))) (.wrap .u64 (ad_ v2_ v3_))))))) .nil))))))))))))
abbrev zpc_pround : Con := ⟨32, [(.agg (.cons (.int .u64 v0_) (.cons (.int .u64 v1_) (.cons (.int .u64 v2_) (.cons (.int .u64 v3_) .nil)))))], (an_ (an_ (le_ (.lit 0) v0_) (le_ v0_ (.lit 18446744073709551615))) (an_ (an_ (le_ (.lit 0) v1_) (le_ v1_ (.lit 18446744073709551615))) (an_ (an_ (le_ (.lit 0) v2_) (le_ v2_ (.lit 18446744073709551615))) (an_ (le_ (.lit 0) v3_) (le_ v3_ (.lit 18446744073709551615)))))), (.agg (.cons (.int .u64 (.iapp 11 (.cons (.int .u64 v0_) (.cons (.int .u64 v1_) (.cons (.int .u64 v2_) (.cons (.int .u64 v3_) (.cons (.int .i64 (.lit 0)) .nil))))))) (.cons (.int .u64 (.iapp 11 (.cons (.int .u64 v0_) (.cons (.int .u64 v1_) (.cons (.int .u64 v2_) (.cons (.int .u64 v3_) (.cons (.int .i64 (.lit 1)) .nil))))))) (.cons (.int .u64 (.iapp 11 (.cons (.int .u64 v0_) (.cons (.int .u64 v1_) (.cons (.int .u64 v2_) (.cons (.int .u64 v3_) (.cons (.int .i64 (.lit 2)) .nil))))))) (.cons (.int .u64 (.iapp 11 (.cons (.int .u64 v0_) (.cons (.int .u64 v1_) (.cons (.int .u64 v2_) (.cons (.int .u64 v3_) (.cons (.int .i64 (.lit 3)) .nil))))))) .nil))))), ⟨4, 0, 0, 0⟩, none⟩
theorem pround_w : walk Try.prog 102 ⟨[zpc_rot13, zpc_rot16, zpc_rot17, zpc_rot21, zpc_rot32], syG, [], [], []⟩ [] .v zpc_pround zpc_pround.n 3000 = some pround_tree := by kernel_rfl
theorem pround_h (a : Int) (b : Int) (c : Int) (d : Int) (hc : holds (zpE [a, b, c, d] [] [] []) (an_ (an_ (le_ (.lit 0) v0_) (le_ v0_ (.lit 18446744073709551615))) (an_ (an_ (le_ (.lit 0) v1_) (le_ v1_ (.lit 18446744073709551615))) (an_ (an_ (le_ (.lit 0) v2_) (le_ v2_ (.lit 18446744073709551615))) (an_ (le_ (.lit 0) v3_) (le_ v3_ (.lit 18446744073709551615))))))) (hty : patsTyp (zpE [a, b, c, d] [] [] []) [(.agg (.cons (.int .u64 v0_) (.cons (.int .u64 v1_) (.cons (.int .u64 v2_) (.cons (.int .u64 v3_) .nil)))))]) : pround_tree.holds (fun v_ => v_ = denV (zpE [a, b, c, d] [] [] []) b0 (.agg (.cons (.int .u64 (.iapp 11 (.cons (.int .u64 v0_) (.cons (.int .u64 v1_) (.cons (.int .u64 v2_) (.cons (.int .u64 v3_) (.cons (.int .i64 (.lit 0)) .nil))))))) (.cons (.int .u64 (.iapp 11 (.cons (.int .u64 v0_) (.cons (.int .u64 v1_) (.cons (.int .u64 v2_) (.cons (.int .u64 v3_) (.cons (.int .i64 (.lit 1)) .nil))))))) (.cons (.int .u64 (.iapp 11 (.cons (.int .u64 v0_) (.cons (.int .u64 v1_) (.cons (.int .u64 v2_) (.cons (.int .u64 v3_) (.cons (.int .i64 (.lit 2)) .nil))))))) (.cons (.int .u64 (.iapp 11 (.cons (.int .u64 v0_) (.cons (.int .u64 v1_) (.cons (.int .u64 v2_) (.cons (.int .u64 v3_) (.cons (.int .i64 (.lit 3)) .nil))))))) .nil)))))) (zpE [a, b, c, d] [] [] []) := by
  simp only [Tree.holds, Sy.holds, AllN, Env.more, zpE, List.cons_append, List.nil_append, List.append_nil, denV, denI, denB, denL, I2.den, VOp.den, List.getD_cons_zero, List.getD_cons_succ, Cst.den, syso, syse, syio, sybo, List.map_nil, List.map_cons, B2.ofInts, B2.denI, B2.denB, if_true, Bool.false_eq_true, if_false, Nat.div_one, Nat.mul_one, Nat.add_zero, holds] at hc
  simp only [patsTyp, patTyp, patTypL, zpE, denV, denL, List.getD_cons_zero, List.getD_cons_succ, and_true, true_and] at hty
  unfold pround_tree
  simp only [Tree.holds, Sy.holds, AllN, Env.more, zpE, List.cons_append, List.nil_append, List.append_nil, denV, denI, denB, denL, I2.den, VOp.den, List.getD_cons_zero, List.getD_cons_succ, Cst.den, syso, syse, syio, sybo, zpi_rt, zpi_rd, List.map_nil, List.map_cons, B2.ofInts, B2.denI, B2.denB, if_true, Bool.false_eq_true, if_false, Nat.div_one, Nat.mul_one, Nat.add_zero]
  refine ⟨?_, fun h0 => ?_⟩
  ·
   first
   | omega
   | exact xo_rng _ _
   | exact wrap_rng _
   | exact ad_rng _ _
  ·
   refine ⟨?_, fun h1 => ?_⟩
   ·
    first
    | omega
    | exact xo_rng _ _
    | exact wrap_rng _
    | exact ad_rng _ _
   ·
    refine ⟨?_, fun h2 => ?_⟩
    ·
     first
     | omega
     | exact xo_rng _ _
     | exact wrap_rng _
     | exact ad_rng _ _
    ·
     refine ⟨?_, fun h3 => ?_⟩
     ·
      first
      | omega
      | exact xo_rng _ _
      | exact wrap_rng _
      | exact ad_rng _ _
     ·
      refine ⟨?_, fun h4 => ?_⟩
      ·
       first
       | omega
       | exact xo_rng _ _
       | exact wrap_rng _
       | exact ad_rng _ _
      ·
       refine ⟨?_, fun h5 => ?_⟩
       ·
        first
        | omega
        | exact xo_rng _ _
        | exact wrap_rng _
        | exact ad_rng _ _
       ·
        try simp only [hw1]
        try simp only [hw0]
        simp only [wr_ad, xo_def]
        rfl
theorem zpg_pround : zpc_pround.Good Try.prog syG (zpE [] [] [] []) := good_of_walk (Γ := ⟨[zpc_rot13, zpc_rot16, zpc_rot17, zpc_rot21, zpc_rot32], syG, [], [], []⟩) (ρ := zpE [] [] [] []) sym pround_w rfl (fun _ _ _ _ => (ok_cons (Con.Good.env zpg_rot13 _ _ _ _) (ok_cons (Con.Good.env zpg_rot16 _ _ _ _) (ok_cons (Con.Good.env zpg_rot17 _ _ _ _) (ok_cons (Con.Good.env zpg_rot21 _ _ _ _) (ok_cons (Con.Good.env zpg_rot32 _ _ _ _) ok_nil)))))) (fun a b c d hc hty => pround_h a b c d hc hty)
def rround_tree : Tree :=
 (.need (an_ (le_ (.lit 0) v1_) (le_ v1_ (.lit 18446744073709551615)))
 (.need (an_ (le_ (.lit 0) (.wrap .u64 (ad_ v0_ v1_))) (le_ (.wrap .u64 (ad_ v0_ v1_)) (.lit 18446744073709551615)))
 (.need (an_ (le_ (.lit 0) v3_) (le_ v3_ (.lit 18446744073709551615)))
 (.need (an_ (le_ (.lit 0) (.i2 (.bits .xor .u64) (.iapp 10 (.cons (.int .u64 v3_) (.cons (.int .i64 (.lit 16)) .nil))) (.wrap .u64 (ad_ v2_ v3_)))) (le_ (.i2 (.bits .xor .u64) (.iapp 10 (.cons (.int .u64 v3_) (.cons (.int .i64 (.lit 16)) .nil))) (.wrap .u64 (ad_ v2_ v3_))) (.lit 18446744073709551615)))
 (.need (an_ (le_ (.lit 0) (.i2 (.bits .xor .u64) (.iapp 10 (.cons (.int .u64 v1_) (.cons (.int .i64 (.lit 13)) .nil))) (.wrap .u64 (ad_ v0_ v1_)))) (le_ (.i2 (.bits .xor .u64) (.iapp 10 (.cons (.int .u64 v1_) (.cons (.int .i64 (.lit 13)) .nil))) (.wrap .u64 (ad_ v0_ v1_))) (.lit 18446744073709551615)))
 (.need (an_ (le_ (.lit 0) (.wrap .u64 (ad_ (.wrap .u64 (ad_ v2_ v3_)) (.i2 (.bits .xor .u64) (.iapp 10 (.cons (.int .u64 v1_) (.cons (.int .i64 (.lit 13)) .nil))) (.wrap .u64 (ad_ v0_ v1_)))))) (le_ (.wrap .u64 (ad_ (.wrap .u64 (ad_ v2_ v3_)) (.i2 (.bits .xor .u64) (.iapp 10 (.cons (.int .u64 v1_) (.cons (.int .i64 (.lit 13)) .nil))) (.wrap .u64 (ad_ v0_ v1_))))) (.lit 18446744073709551615)))
 (.ret (.agg (.cons (.int .u64 (.wrap .u64 (ad_ (.iapp 10 (.cons (.int .u64 (.wrap .u64 (ad_ v0_ v1_))) (.cons (.int .i64 (.lit 32)) .nil))) (.i2 (.bits .xor .u64) (.iapp 10 (.cons (.int .u64 v3_) (.cons (.int .i64 (.lit 16)) .nil))) (.wrap .u64 (ad_ v2_ v3_)))))) (.cons (.int .u64 (.i2 (.bits .xor .u64) (.iapp 10 (.cons (.int .u64 (.i2 (.bits .xor .u64) (.iapp 10 (.cons (.int .u64 v1_) (.cons (.int .i64 (.lit 13)) .nil))) (.wrap .u64 (ad_ v0_ v1_)))) (.cons (.int .i64 (.lit 17)) .nil))) (.wrap .u64 (ad_ (.wrap .u64 (ad_ v2_ v3_)) (.i2 (.bits .xor .u64) (.iapp 10 (.cons (.int .u64 v1_) (.cons (.int .i64 (.lit 13)) .nil))) (.wrap .u64 (ad_ v0_ v1_))))))) (.cons (.int .u64 (.iapp 10 (.cons (.int .u64 (.wrap .u64 (ad_ (.wrap .u64 (ad_ v2_ v3_)) (.i2 (.bits .xor .u64) (.iapp 10 (.cons (.int .u64 v1_) (.cons (.int .i64 (.lit 13)) .nil))) (.wrap .u64 (ad_ v0_ v1_)))))) (.cons (.int .i64 (.lit 32)) .nil)))) (.cons (.int .u64 (.i2 (.bits .xor .u64) (.iapp 10 (.cons (.int .u64 (.i2 (.bits .xor .u64) (.iapp 10 (.cons (.int .u64 v3_) (.cons (.int .i64 (.lit 16)) .nil))) (.wrap .u64 (ad_ v2_ v3_)))) (.cons (.int .i64 (.lit 21)) .nil))) (.wrap .u64 (ad_ (.iapp 10 (.cons (.int .u64 (.wrap .u64 (ad_ v0_ v1_))) (.cons (.int .i64 (.lit 32)) .nil))) (.i2 (.bits .xor .u64) (.iapp 10 (.cons (.int .u64 v3_) (.cons (.int .i64 (.lit 16)) .nil))) (.wrap .u64 (ad_ v2_ v3_))))))) .nil))))))))))))
abbrev zpc_rround : Con := ⟨34, [(.agg (.cons (.int .u64 v0_) (.cons (.int .u64 v1_) (.cons (.int .u64 v2_) (.cons (.int .u64 v3_) .nil)))))], (an_ (an_ (le_ (.lit 0) v0_) (le_ v0_ (.lit 18446744073709551615))) (an_ (an_ (le_ (.lit 0) v1_) (le_ v1_ (.lit 18446744073709551615))) (an_ (an_ (le_ (.lit 0) v2_) (le_ v2_ (.lit 18446744073709551615))) (an_ (le_ (.lit 0) v3_) (le_ v3_ (.lit 18446744073709551615)))))), (.agg (.cons (.int .u64 (.iapp 11 (.cons (.int .u64 v0_) (.cons (.int .u64 v1_) (.cons (.int .u64 v2_) (.cons (.int .u64 v3_) (.cons (.int .i64 (.lit 0)) .nil))))))) (.cons (.int .u64 (.iapp 11 (.cons (.int .u64 v0_) (.cons (.int .u64 v1_) (.cons (.int .u64 v2_) (.cons (.int .u64 v3_) (.cons (.int .i64 (.lit 1)) .nil))))))) (.cons (.int .u64 (.iapp 11 (.cons (.int .u64 v0_) (.cons (.int .u64 v1_) (.cons (.int .u64 v2_) (.cons (.int .u64 v3_) (.cons (.int .i64 (.lit 2)) .nil))))))) (.cons (.int .u64 (.iapp 11 (.cons (.int .u64 v0_) (.cons (.int .u64 v1_) (.cons (.int .u64 v2_) (.cons (.int .u64 v3_) (.cons (.int .i64 (.lit 3)) .nil))))))) .nil))))), ⟨4, 0, 0, 0⟩, none⟩
theorem rround_w : walk Try.prog 102 ⟨[zpc_trn13, zpc_trn16, zpc_trn17, zpc_trn21, zpc_trn32], syG, [], [], []⟩ [] .v zpc_rround zpc_rround.n 3000 = some rround_tree := by kernel_rfl
theorem rround_h (a : Int) (b : Int) (c : Int) (d : Int) (hc : holds (zpE [a, b, c, d] [] [] []) (an_ (an_ (le_ (.lit 0) v0_) (le_ v0_ (.lit 18446744073709551615))) (an_ (an_ (le_ (.lit 0) v1_) (le_ v1_ (.lit 18446744073709551615))) (an_ (an_ (le_ (.lit 0) v2_) (le_ v2_ (.lit 18446744073709551615))) (an_ (le_ (.lit 0) v3_) (le_ v3_ (.lit 18446744073709551615))))))) (hty : patsTyp (zpE [a, b, c, d] [] [] []) [(.agg (.cons (.int .u64 v0_) (.cons (.int .u64 v1_) (.cons (.int .u64 v2_) (.cons (.int .u64 v3_) .nil)))))]) : rround_tree.holds (fun v_ => v_ = denV (zpE [a, b, c, d] [] [] []) b0 (.agg (.cons (.int .u64 (.iapp 11 (.cons (.int .u64 v0_) (.cons (.int .u64 v1_) (.cons (.int .u64 v2_) (.cons (.int .u64 v3_) (.cons (.int .i64 (.lit 0)) .nil))))))) (.cons (.int .u64 (.iapp 11 (.cons (.int .u64 v0_) (.cons (.int .u64 v1_) (.cons (.int .u64 v2_) (.cons (.int .u64 v3_) (.cons (.int .i64 (.lit 1)) .nil))))))) (.cons (.int .u64 (.iapp 11 (.cons (.int .u64 v0_) (.cons (.int .u64 v1_) (.cons (.int .u64 v2_) (.cons (.int .u64 v3_) (.cons (.int .i64 (.lit 2)) .nil))))))) (.cons (.int .u64 (.iapp 11 (.cons (.int .u64 v0_) (.cons (.int .u64 v1_) (.cons (.int .u64 v2_) (.cons (.int .u64 v3_) (.cons (.int .i64 (.lit 3)) .nil))))))) .nil)))))) (zpE [a, b, c, d] [] [] []) := by
  simp only [Tree.holds, Sy.holds, AllN, Env.more, zpE, List.cons_append, List.nil_append, List.append_nil, denV, denI, denB, denL, I2.den, VOp.den, List.getD_cons_zero, List.getD_cons_succ, Cst.den, syso, syse, syio, sybo, List.map_nil, List.map_cons, B2.ofInts, B2.denI, B2.denB, if_true, Bool.false_eq_true, if_false, Nat.div_one, Nat.mul_one, Nat.add_zero, holds] at hc
  simp only [patsTyp, patTyp, patTypL, zpE, denV, denL, List.getD_cons_zero, List.getD_cons_succ, and_true, true_and] at hty
  unfold rround_tree
  simp only [Tree.holds, Sy.holds, AllN, Env.more, zpE, List.cons_append, List.nil_append, List.append_nil, denV, denI, denB, denL, I2.den, VOp.den, List.getD_cons_zero, List.getD_cons_succ, Cst.den, syso, syse, syio, sybo, zpi_rt, zpi_rd, List.map_nil, List.map_cons, B2.ofInts, B2.denI, B2.denB, if_true, Bool.false_eq_true, if_false, Nat.div_one, Nat.mul_one, Nat.add_zero]
  refine ⟨?_, fun h0 => ?_⟩
  ·
   first
   | omega
   | exact xo_rng _ _
   | exact wrap_rng _
   | exact ad_rng _ _
  ·
   refine ⟨?_, fun h1 => ?_⟩
   ·
    first
    | omega
    | exact xo_rng _ _
    | exact wrap_rng _
    | exact ad_rng _ _
   ·
    refine ⟨?_, fun h2 => ?_⟩
    ·
     first
     | omega
     | exact xo_rng _ _
     | exact wrap_rng _
     | exact ad_rng _ _
    ·
     refine ⟨?_, fun h3 => ?_⟩
     ·
      first
      | omega
      | exact xo_rng _ _
      | exact wrap_rng _
      | exact ad_rng _ _
     ·
      refine ⟨?_, fun h4 => ?_⟩
      ·
       first
       | omega
       | exact xo_rng _ _
       | exact wrap_rng _
       | exact ad_rng _ _
      ·
       refine ⟨?_, fun h5 => ?_⟩
       ·
        first
        | omega
        | exact xo_rng _ _
        | exact wrap_rng _
        | exact ad_rng _ _
       ·
        try simp only [hw1]
        try simp only [hw0]
        simp only [wr_ad, xo_def]
        rfl
theorem zpg_rround : zpc_rround.Good Try.prog syG (zpE [] [] [] []) := good_of_walk (Γ := ⟨[zpc_trn13, zpc_trn16, zpc_trn17, zpc_trn21, zpc_trn32], syG, [], [], []⟩) (ρ := zpE [] [] [] []) sym rround_w rfl (fun _ _ _ _ => (ok_cons (Con.Good.env zpg_trn13 _ _ _ _) (ok_cons (Con.Good.env zpg_trn16 _ _ _ _) (ok_cons (Con.Good.env zpg_trn17 _ _ _ _) (ok_cons (Con.Good.env zpg_trn21 _ _ _ _) (ok_cons (Con.Good.env zpg_trn32 _ _ _ _) ok_nil)))))) (fun a b c d hc hty => rround_h a b c d hc hty)
def ptake_tree : Tree :=
 (.need (an_ (an_ (le_ (.lit 0) v0_) (le_ v0_ (.lit 18446744073709551615))) (an_ (an_ (le_ (.lit 0) v1_) (le_ v1_ (.lit 18446744073709551615))) (an_ (an_ (le_ (.lit 0) v2_) (le_ v2_ (.lit 18446744073709551615))) (an_ (le_ (.lit 0) (.i2 (.bits .xor .u64) v3_ v4_)) (le_ (.i2 (.bits .xor .u64) v3_ v4_) (.lit 18446744073709551615))))))
 (.need (an_ (an_ (le_ (.lit 0) (.iapp 11 (.cons (.int .u64 v0_) (.cons (.int .u64 v1_) (.cons (.int .u64 v2_) (.cons (.int .u64 (.i2 (.bits .xor .u64) v3_ v4_)) (.cons (.int .i64 (.lit 0)) .nil))))))) (le_ (.iapp 11 (.cons (.int .u64 v0_) (.cons (.int .u64 v1_) (.cons (.int .u64 v2_) (.cons (.int .u64 (.i2 (.bits .xor .u64) v3_ v4_)) (.cons (.int .i64 (.lit 0)) .nil)))))) (.lit 18446744073709551615))) (an_ (an_ (le_ (.lit 0) (.iapp 11 (.cons (.int .u64 v0_) (.cons (.int .u64 v1_) (.cons (.int .u64 v2_) (.cons (.int .u64 (.i2 (.bits .xor .u64) v3_ v4_)) (.cons (.int .i64 (.lit 1)) .nil))))))) (le_ (.iapp 11 (.cons (.int .u64 v0_) (.cons (.int .u64 v1_) (.cons (.int .u64 v2_) (.cons (.int .u64 (.i2 (.bits .xor .u64) v3_ v4_)) (.cons (.int .i64 (.lit 1)) .nil)))))) (.lit 18446744073709551615))) (an_ (an_ (le_ (.lit 0) (.iapp 11 (.cons (.int .u64 v0_) (.cons (.int .u64 v1_) (.cons (.int .u64 v2_) (.cons (.int .u64 (.i2 (.bits .xor .u64) v3_ v4_)) (.cons (.int .i64 (.lit 2)) .nil))))))) (le_ (.iapp 11 (.cons (.int .u64 v0_) (.cons (.int .u64 v1_) (.cons (.int .u64 v2_) (.cons (.int .u64 (.i2 (.bits .xor .u64) v3_ v4_)) (.cons (.int .i64 (.lit 2)) .nil)))))) (.lit 18446744073709551615))) (an_ (le_ (.lit 0) (.iapp 11 (.cons (.int .u64 v0_) (.cons (.int .u64 v1_) (.cons (.int .u64 v2_) (.cons (.int .u64 (.i2 (.bits .xor .u64) v3_ v4_)) (.cons (.int .i64 (.lit 3)) .nil))))))) (le_ (.iapp 11 (.cons (.int .u64 v0_) (.cons (.int .u64 v1_) (.cons (.int .u64 v2_) (.cons (.int .u64 (.i2 (.bits .xor .u64) v3_ v4_)) (.cons (.int .i64 (.lit 3)) .nil)))))) (.lit 18446744073709551615))))))
 (.ret (.agg (.cons (.int .u64 (.i2 (.bits .xor .u64) (.iapp 11 (.cons (.int .u64 (.iapp 11 (.cons (.int .u64 v0_) (.cons (.int .u64 v1_) (.cons (.int .u64 v2_) (.cons (.int .u64 (.i2 (.bits .xor .u64) v3_ v4_)) (.cons (.int .i64 (.lit 0)) .nil))))))) (.cons (.int .u64 (.iapp 11 (.cons (.int .u64 v0_) (.cons (.int .u64 v1_) (.cons (.int .u64 v2_) (.cons (.int .u64 (.i2 (.bits .xor .u64) v3_ v4_)) (.cons (.int .i64 (.lit 1)) .nil))))))) (.cons (.int .u64 (.iapp 11 (.cons (.int .u64 v0_) (.cons (.int .u64 v1_) (.cons (.int .u64 v2_) (.cons (.int .u64 (.i2 (.bits .xor .u64) v3_ v4_)) (.cons (.int .i64 (.lit 2)) .nil))))))) (.cons (.int .u64 (.iapp 11 (.cons (.int .u64 v0_) (.cons (.int .u64 v1_) (.cons (.int .u64 v2_) (.cons (.int .u64 (.i2 (.bits .xor .u64) v3_ v4_)) (.cons (.int .i64 (.lit 3)) .nil))))))) (.cons (.int .i64 (.lit 0)) .nil)))))) v4_)) (.cons (.int .u64 (.iapp 11 (.cons (.int .u64 (.iapp 11 (.cons (.int .u64 v0_) (.cons (.int .u64 v1_) (.cons (.int .u64 v2_) (.cons (.int .u64 (.i2 (.bits .xor .u64) v3_ v4_)) (.cons (.int .i64 (.lit 0)) .nil))))))) (.cons (.int .u64 (.iapp 11 (.cons (.int .u64 v0_) (.cons (.int .u64 v1_) (.cons (.int .u64 v2_) (.cons (.int .u64 (.i2 (.bits .xor .u64) v3_ v4_)) (.cons (.int .i64 (.lit 1)) .nil))))))) (.cons (.int .u64 (.iapp 11 (.cons (.int .u64 v0_) (.cons (.int .u64 v1_) (.cons (.int .u64 v2_) (.cons (.int .u64 (.i2 (.bits .xor .u64) v3_ v4_)) (.cons (.int .i64 (.lit 2)) .nil))))))) (.cons (.int .u64 (.iapp 11 (.cons (.int .u64 v0_) (.cons (.int .u64 v1_) (.cons (.int .u64 v2_) (.cons (.int .u64 (.i2 (.bits .xor .u64) v3_ v4_)) (.cons (.int .i64 (.lit 3)) .nil))))))) (.cons (.int .i64 (.lit 1)) .nil))))))) (.cons (.int .u64 (.iapp 11 (.cons (.int .u64 (.iapp 11 (.cons (.int .u64 v0_) (.cons (.int .u64 v1_) (.cons (.int .u64 v2_) (.cons (.int .u64 (.i2 (.bits .xor .u64) v3_ v4_)) (.cons (.int .i64 (.lit 0)) .nil))))))) (.cons (.int .u64 (.iapp 11 (.cons (.int .u64 v0_) (.cons (.int .u64 v1_) (.cons (.int .u64 v2_) (.cons (.int .u64 (.i2 (.bits .xor .u64) v3_ v4_)) (.cons (.int .i64 (.lit 1)) .nil))))))) (.cons (.int .u64 (.iapp 11 (.cons (.int .u64 v0_) (.cons (.int .u64 v1_) (.cons (.int .u64 v2_) (.cons (.int .u64 (.i2 (.bits .xor .u64) v3_ v4_)) (.cons (.int .i64 (.lit 2)) .nil))))))) (.cons (.int .u64 (.iapp 11 (.cons (.int .u64 v0_) (.cons (.int .u64 v1_) (.cons (.int .u64 v2_) (.cons (.int .u64 (.i2 (.bits .xor .u64) v3_ v4_)) (.cons (.int .i64 (.lit 3)) .nil))))))) (.cons (.int .i64 (.lit 2)) .nil))))))) (.cons (.int .u64 (.iapp 11 (.cons (.int .u64 (.iapp 11 (.cons (.int .u64 v0_) (.cons (.int .u64 v1_) (.cons (.int .u64 v2_) (.cons (.int .u64 (.i2 (.bits .xor .u64) v3_ v4_)) (.cons (.int .i64 (.lit 0)) .nil))))))) (.cons (.int .u64 (.iapp 11 (.cons (.int .u64 v0_) (.cons (.int .u64 v1_) (.cons (.int .u64 v2_) (.cons (.int .u64 (.i2 (.bits .xor .u64) v3_ v4_)) (.cons (.int .i64 (.lit 1)) .nil))))))) (.cons (.int .u64 (.iapp 11 (.cons (.int .u64 v0_) (.cons (.int .u64 v1_) (.cons (.int .u64 v2_) (.cons (.int .u64 (.i2 (.bits .xor .u64) v3_ v4_)) (.cons (.int .i64 (.lit 2)) .nil))))))) (.cons (.int .u64 (.iapp 11 (.cons (.int .u64 v0_) (.cons (.int .u64 v1_) (.cons (.int .u64 v2_) (.cons (.int .u64 (.i2 (.bits .xor .u64) v3_ v4_)) (.cons (.int .i64 (.lit 3)) .nil))))))) (.cons (.int .i64 (.lit 3)) .nil))))))) .nil))))))))
abbrev zpc_ptake : Con := ⟨31, [(.agg (.cons (.int .u64 v0_) (.cons (.int .u64 v1_) (.cons (.int .u64 v2_) (.cons (.int .u64 v3_) .nil))))), (.int .u64 v4_)], (an_ (an_ (le_ (.lit 0) v0_) (le_ v0_ (.lit 18446744073709551615))) (an_ (an_ (le_ (.lit 0) v1_) (le_ v1_ (.lit 18446744073709551615))) (an_ (an_ (le_ (.lit 0) v2_) (le_ v2_ (.lit 18446744073709551615))) (an_ (le_ (.lit 0) v3_) (le_ v3_ (.lit 18446744073709551615)))))), (.agg (.cons (.int .u64 (.iapp 12 (.cons (.int .u64 v0_) (.cons (.int .u64 v1_) (.cons (.int .u64 v2_) (.cons (.int .u64 v3_) (.cons (.int .u64 v4_) (.cons (.int .i64 (.lit 0)) .nil)))))))) (.cons (.int .u64 (.iapp 12 (.cons (.int .u64 v0_) (.cons (.int .u64 v1_) (.cons (.int .u64 v2_) (.cons (.int .u64 v3_) (.cons (.int .u64 v4_) (.cons (.int .i64 (.lit 1)) .nil)))))))) (.cons (.int .u64 (.iapp 12 (.cons (.int .u64 v0_) (.cons (.int .u64 v1_) (.cons (.int .u64 v2_) (.cons (.int .u64 v3_) (.cons (.int .u64 v4_) (.cons (.int .i64 (.lit 2)) .nil)))))))) (.cons (.int .u64 (.iapp 12 (.cons (.int .u64 v0_) (.cons (.int .u64 v1_) (.cons (.int .u64 v2_) (.cons (.int .u64 v3_) (.cons (.int .u64 v4_) (.cons (.int .i64 (.lit 3)) .nil)))))))) .nil))))), ⟨5, 0, 0, 0⟩, none⟩
theorem ptake_w : walk Try.prog 102 ⟨[zpc_pround], syG, [], [], []⟩ [] .v zpc_ptake zpc_ptake.n 3000 = some ptake_tree := by kernel_rfl
theorem ptake_h (a : Int) (b : Int) (c : Int) (d : Int) (w : Int) (hc : holds (zpE [a, b, c, d, w] [] [] []) (an_ (an_ (le_ (.lit 0) v0_) (le_ v0_ (.lit 18446744073709551615))) (an_ (an_ (le_ (.lit 0) v1_) (le_ v1_ (.lit 18446744073709551615))) (an_ (an_ (le_ (.lit 0) v2_) (le_ v2_ (.lit 18446744073709551615))) (an_ (le_ (.lit 0) v3_) (le_ v3_ (.lit 18446744073709551615))))))) (hty : patsTyp (zpE [a, b, c, d, w] [] [] []) [(.agg (.cons (.int .u64 v0_) (.cons (.int .u64 v1_) (.cons (.int .u64 v2_) (.cons (.int .u64 v3_) .nil))))), (.int .u64 v4_)]) : ptake_tree.holds (fun v_ => v_ = denV (zpE [a, b, c, d, w] [] [] []) b0 (.agg (.cons (.int .u64 (.iapp 12 (.cons (.int .u64 v0_) (.cons (.int .u64 v1_) (.cons (.int .u64 v2_) (.cons (.int .u64 v3_) (.cons (.int .u64 v4_) (.cons (.int .i64 (.lit 0)) .nil)))))))) (.cons (.int .u64 (.iapp 12 (.cons (.int .u64 v0_) (.cons (.int .u64 v1_) (.cons (.int .u64 v2_) (.cons (.int .u64 v3_) (.cons (.int .u64 v4_) (.cons (.int .i64 (.lit 1)) .nil)))))))) (.cons (.int .u64 (.iapp 12 (.cons (.int .u64 v0_) (.cons (.int .u64 v1_) (.cons (.int .u64 v2_) (.cons (.int .u64 v3_) (.cons (.int .u64 v4_) (.cons (.int .i64 (.lit 2)) .nil)))))))) (.cons (.int .u64 (.iapp 12 (.cons (.int .u64 v0_) (.cons (.int .u64 v1_) (.cons (.int .u64 v2_) (.cons (.int .u64 v3_) (.cons (.int .u64 v4_) (.cons (.int .i64 (.lit 3)) .nil)))))))) .nil)))))) (zpE [a, b, c, d, w] [] [] []) := by
  simp only [Tree.holds, Sy.holds, AllN, Env.more, zpE, List.cons_append, List.nil_append, List.append_nil, denV, denI, denB, denL, I2.den, VOp.den, List.getD_cons_zero, List.getD_cons_succ, Cst.den, syso, syse, syio, sybo, List.map_nil, List.map_cons, B2.ofInts, B2.denI, B2.denB, if_true, Bool.false_eq_true, if_false, Nat.div_one, Nat.mul_one, Nat.add_zero, holds] at hc
  simp only [patsTyp, patTyp, patTypL, zpE, denV, denL, List.getD_cons_zero, List.getD_cons_succ, and_true, true_and] at hty
  unfold ptake_tree
  simp only [Tree.holds, Sy.holds, AllN, Env.more, zpE, List.cons_append, List.nil_append, List.append_nil, denV, denI, denB, denL, I2.den, VOp.den, List.getD_cons_zero, List.getD_cons_succ, Cst.den, syso, syse, syio, sybo, zpi_rd, zpi_tk, List.map_nil, List.map_cons, B2.ofInts, B2.denI, B2.denB, if_true, Bool.false_eq_true, if_false, Nat.div_one, Nat.mul_one, Nat.add_zero]
  refine ⟨?_, fun h0 => ?_⟩
  ·
   first
   | omega
   | exact ⟨by omega, by omega, by omega, by omega, by omega, by omega, xo_rng _ _⟩
   | exact ⟨⟨by omega, by omega⟩, ⟨by omega, by omega⟩, ⟨by omega, by omega⟩, xo_rng _ _⟩
   | exact ⟨rnd_rng _ _, rnd_rng _ _, rnd_rng _ _, rnd_rng _ _⟩
   | exact ⟨(rnd_rng _ _).1, (rnd_rng _ _).2, (rnd_rng _ _).1, (rnd_rng _ _).2, (rnd_rng _ _).1, (rnd_rng _ _).2, (rnd_rng _ _).1, (rnd_rng _ _).2⟩
  ·
   refine ⟨?_, fun h1 => ?_⟩
   ·
    first
    | omega
    | exact ⟨by omega, by omega, by omega, by omega, by omega, by omega, xo_rng _ _⟩
    | exact ⟨⟨by omega, by omega⟩, ⟨by omega, by omega⟩, ⟨by omega, by omega⟩, xo_rng _ _⟩
    | exact ⟨rnd_rng _ _, rnd_rng _ _, rnd_rng _ _, rnd_rng _ _⟩
    | exact ⟨(rnd_rng _ _).1, (rnd_rng _ _).2, (rnd_rng _ _).1, (rnd_rng _ _).2, (rnd_rng _ _).1, (rnd_rng _ _).2, (rnd_rng _ _).1, (rnd_rng _ _).2⟩
   ·
    rfl
theorem zpg_ptake : zpc_ptake.Good Try.prog syG (zpE [] [] [] []) := good_of_walk (Γ := ⟨[zpc_pround], syG, [], [], []⟩) (ρ := zpE [] [] [] []) sym ptake_w rfl (fun _ _ _ _ => (ok_cons (Con.Good.env zpg_pround _ _ _ _) ok_nil)) (fun a b c d w hc hty => ptake_h a b c d w hc hty)
end Go.Proofs.Ytbgmbbkmadkhgaa
