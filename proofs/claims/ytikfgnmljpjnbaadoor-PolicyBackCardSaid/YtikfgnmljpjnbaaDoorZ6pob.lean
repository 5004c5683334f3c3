/-
 Layer 6 by the second engine: sums, blobs.
-/
import Derived.Test.YtikfgnmljpjnbaaDoorSycpob
import Derived.Test.YtikfgnmljpjnbaaDoorZRpob
import Derived.Test.YtikfgnmljpjnbaaDoorBygpob
namespace Go.Proofs.YtikfgnmljpjnbaaDoor
open Go.RowKit Go.Extern.Stop Go.Stop Go.Extern Go.Proofs.YtikfgnmljpjnbaaDoor.Sy
set_option linter.unusedVariables false
set_option linter.unusedSimpArgs false
def sealV (l : List Value) : Value := .tuple (l ++ (sumBytes (crcMore 0 (byL l))).map bV).toArray
def opnE (l : List Value) : Int := if opensB (byL l) then 0 else 4
def opnV (l : List Value) : Value := if opensB (byL l) then .tuple (l.take (l.length - 4)).toArray else .tuple #[]
def putV (l : List Value) (v : Int) (n : Nat) : Value := .tuple (l ++ numB v n).toArray
theorem okR_isB {l : List Value} (h : isB l) : okR l = true := okR_iff.2 (isB_inK h)
theorem isB_typ {c : Value} (ht : typ (.sl KB) c) (hk : okR (Sy.rows c) = true) : isB (Sy.rows c) := isB_of ht (okR_iff.1 hk)
theorem rows_tup (a : Array Value) : Sy.rows (.tuple a) = a.toList := rfl
theorem sumB (s : Nat) : (sumBytes s).map bV = [.int .u8 ((s : Int) % 256), .int .u8 ((s : Int) / 256 % 256), .int .u8 ((s : Int) / 65536 % 256), .int .u8 ((s : Int) / 16777216 % 256)] := by
 simp only [sumBytes, List.map_cons, List.map_nil, bV, sumByte_toNat]
 simp
theorem wr_u8 (n : Int) : IntKind.wrap .u8 n = n % 256 := rfl
theorem wr_u16 (n : Int) : IntKind.wrap .u16 n = n % 65536 := rfl
theorem fdp (c k : Int) {d : Int} (h : d = k) (hk : 0 ≤ k) : c.fdiv d = c / k := by rw [h]; exact Int.fdiv_eq_ediv_of_nonneg _ hk
theorem fd0 (c : Int) : c.fdiv (2 ^ min (Int.toNat 0) IntKind.u32.bits) = c := (fdp c 1 (by decide) (by decide)).trans (Int.ediv_one c)
theorem fd8 (c : Int) : c.fdiv (2 ^ min (Int.toNat 8) IntKind.u32.bits) = c / 256 := fdp c 256 (by decide) (by decide)
theorem fd16 (c : Int) : c.fdiv (2 ^ min (Int.toNat 16) IntKind.u32.bits) = c / 65536 := fdp c 65536 (by decide) (by decide)
theorem fd24 (c : Int) : c.fdiv (2 ^ min (Int.toNat 24) IntKind.u32.bits) = c / 16777216 := fdp c 16777216 (by decide) (by decide)
theorem fe8 (c : Int) : c.fdiv (2 ^ min (Int.toNat 8) IntKind.u64.bits) = c / 256 := fdp c 256 (by decide) (by decide)
theorem td8 {c : Int} (h : 0 ≤ c) : c.tdiv 256 = c / 256 := Int.tdiv_eq_ediv_of_nonneg h
theorem tm8 {c : Int} (h : 0 ≤ c) : c.tmod 256 = c % 256 := Int.tmod_eq_emod_of_nonneg h
theorem tup_congr {a b : List Value} (h : a = b) : Value.tuple a.toArray = .tuple b.toArray := by rw [h]
theorem wrap_u8 (n : Int) : IntKind.wrap .u8 n = n % 256 := rfl
theorem wrap_u16 (n : Int) : IntKind.wrap .u16 n = n % 65536 := rfl
theorem wrap_u64 (n : Int) : IntKind.wrap .u64 n = n % 18446744073709551616 := rfl
noncomputable def z6I : Nat → List Value → Int
 | 3, [l] => ((crcMore 0 (byL (rows l)) : Nat) : Int)
 | 4, [l] => opnE (rows l)
 | i, l => rI i l
noncomputable def z6B : Nat → List Value → Bool
 | i, l => rB i l
noncomputable def z6V : Nat → List Value → Value
 | 1, [l] => sealV (rows l)
 | 2, [l] => opnV (rows l)
 | 3, [l, .int _ v] => putV (rows l) v 1
 | 4, [l, .int _ v] => putV (rows l) v 2
 | 5, [l, .int _ v] => putV (rows l) v 4
 | 6, [l, .int _ v] => putV (rows l) v 8
 | i, l => rV i l
noncomputable abbrev z6E (iv : List Int) (bv : List Bool) (vv : List Value) (sv : List ByteArray) : Env := { iv := iv, bv := bv, vv := vv, sv := sv, fi := z6I, fb := z6B, fv := z6V, et := 101 }
set_option maxHeartbeats 8000000 in
theorem z6up : Agree 3 2 1 (rE [] [] [] []) (z6E [] [] [] []) := ⟨rfl, (by
   intro f hf
   funext l
   show z6I f l = rI f l
   unfold z6I
   split <;> first | rfl | omega), (by
   intro f hf
   funext l
   show z6B f l = rB f l
   unfold z6B
   split <;> first | rfl | omega), (by
   intro f hf
   funext l
   show z6V f l = rV f l
   unfold z6V
   split <;> first | rfl | omega)⟩
theorem z6i_sum (l : Value) : z6I 3 [l] = ((crcMore 0 (byL (rows l)) : Nat) : Int) := rfl
theorem z6b_okr (l : Value) : z6B 0 [l] = okR (rows l) := rfl
theorem z6v_seal (l : Value) : z6V 1 [l] = sealV (rows l) := rfl
theorem z6v_p2 (l : Value) (k1 : IntKind) (v : Int) : z6V 4 [l, .int k1 v] = putV (rows l) v 2 := rfl
theorem z6v_p8 (l : Value) (k1 : IntKind) (v : Int) : z6V 6 [l, .int k1 v] = putV (rows l) v 8 := rfl
abbrev z6c_sum : Con := ⟨85, [(.hs .no (.cons (.int .u8) .nil) o0_)], (.bapp 0 (.cons o0_ .nil)), (.int .u32 (.iapp 3 (.cons o0_ .nil))), ⟨0, 0, 1, 0⟩, none⟩
theorem z6g_sum : z6c_sum.Good Tryd.prog syG (z6E [] [] [] []) := by
 exact sum_good rfl (fun c h => okR_iff.1 h) (fun _ _ => rfl)
def sealed_tree : Tree :=
 (.need (.bapp 0 (.cons o0_ .nil))
 (.need (an_ (le_ (.lit 0) (wr_ (ad_ (.ofI (.vop (.len 1) (.cons o0_ .nil))) (.lit 4)))) (le_ (wr_ (ad_ (.ofI (.vop (.len 1) (.cons o0_ .nil))) (.lit 4))) (.lit 140737488355328)))
 (.need (le_ (ad_ (.lit 0) (.ofI (.vop (.len 1) (.cons o0_ .nil)))) (.lit 140737488355328))
 (.need (le_ (ad_ (.ofI (.vop (.len 1) (.cons o0_ .nil))) (.lit 1)) (.lit 140737488355328))
 (.need (le_ (ad_ (.ofI (.vop (.len 1) (.cons (.vop .cat (.cons o0_ (.cons (.tup (.cons (.int .u8 (.wrap .u8 (.i2 (.shr .u32) (.iapp 3 (.cons o0_ .nil)) (.lit 0)))) .nil)) .nil))) .nil))) (.lit 1)) (.lit 140737488355328))
 (.need (le_ (ad_ (.ofI (.vop (.len 1) (.cons (.vop .cat (.cons (.vop .cat (.cons o0_ (.cons (.tup (.cons (.int .u8 (.wrap .u8 (.i2 (.shr .u32) (.iapp 3 (.cons o0_ .nil)) (.lit 0)))) .nil)) .nil))) (.cons (.tup (.cons (.int .u8 (.wrap .u8 (.i2 (.shr .u32) (.iapp 3 (.cons o0_ .nil)) (.lit 8)))) .nil)) .nil))) .nil))) (.lit 1)) (.lit 140737488355328))
 (.need (le_ (ad_ (.ofI (.vop (.len 1) (.cons (.vop .cat (.cons (.vop .cat (.cons (.vop .cat (.cons o0_ (.cons (.tup (.cons (.int .u8 (.wrap .u8 (.i2 (.shr .u32) (.iapp 3 (.cons o0_ .nil)) (.lit 0)))) .nil)) .nil))) (.cons (.tup (.cons (.int .u8 (.wrap .u8 (.i2 (.shr .u32) (.iapp 3 (.cons o0_ .nil)) (.lit 8)))) .nil)) .nil))) (.cons (.tup (.cons (.int .u8 (.wrap .u8 (.i2 (.shr .u32) (.iapp 3 (.cons o0_ .nil)) (.lit 16)))) .nil)) .nil))) .nil))) (.lit 1)) (.lit 140737488355328))
 (.ret (.hs (.new 5) (.cons (.int .u8) .nil) (.vop .cat (.cons (.vop .cat (.cons (.vop .cat (.cons (.vop .cat (.cons o0_ (.cons (.tup (.cons (.int .u8 (.wrap .u8 (.i2 (.shr .u32) (.iapp 3 (.cons o0_ .nil)) (.lit 0)))) .nil)) .nil))) (.cons (.tup (.cons (.int .u8 (.wrap .u8 (.i2 (.shr .u32) (.iapp 3 (.cons o0_ .nil)) (.lit 8)))) .nil)) .nil))) (.cons (.tup (.cons (.int .u8 (.wrap .u8 (.i2 (.shr .u32) (.iapp 3 (.cons o0_ .nil)) (.lit 16)))) .nil)) .nil))) (.cons (.tup (.cons (.int .u8 (.wrap .u8 (.i2 (.shr .u32) (.iapp 3 (.cons o0_ .nil)) (.lit 24)))) .nil)) .nil))))))))))))
abbrev z6c_sealed : Con := ⟨38, [(.hs .no (.cons (.int .u8) .nil) o0_)], (an_ (.bapp 0 (.cons o0_ .nil)) (le_ (.ofI (.vop (.len 1) (.cons o0_ .nil))) (.lit 140737488355000))), (.hs (.new 5) (.cons (.int .u8) .nil) (.vapp 1 (.cons o0_ .nil))), ⟨0, 0, 1, 0⟩, none⟩
theorem sealed_w : walk Tryd.prog 101 ⟨[z6c_sum], syG, [], [], []⟩ [] (.o 5 (.cons (.int .u8) .nil)) z6c_sealed z6c_sealed.n 3000 = some sealed_tree := by kernel_rfl
theorem sealed_h (l : Value) : Hyp_ z6c_sealed sealed_tree (z6E [] [] [l] []) := by
 intro hc hty
 simp only [z6c_sealed, Sy.holds, z6E, denV, denI, denB, denL, I2.den, VOp.den, List.getD_cons_zero, List.getD_cons_succ, Cst.den, syso, syse, syio, sybo, z6b_okr, B2.ofInts, B2.denI, B2.denB, if_true, Bool.false_eq_true, if_false, Nat.div_one, Nat.mul_one, Nat.add_zero] at hc
 simp only [z6c_sealed, patsTyp, patTyp, patTypL, z6E, denV, denL, List.getD_cons_zero, List.getD_cons_succ, and_true, true_and] at hty
 have hL_l : typ (.sl (.cons (.int .u8) .nil)) l := by first | exact hty | exact hty.1 | exact hty.2 | exact hty.1.1 | exact hty.1.2 | exact hty.2.1 | exact hty.2.2 | exact hty.2.2.1 | exact hty.2.2.2
 have hN_l := typ_len (n := 1) hL_l rfl (by omega)
 simp only [Nat.div_one, Nat.mul_one] at hN_l
 unfold sealed_tree
 simp only [z6c_sealed, Tree.holds, Sy.holds, z6E, denV, denI, denB, denL, I2.den, VOp.den, List.getD_cons_zero, List.getD_cons_succ, Cst.den, syso, syse, syio, sybo, z6i_sum, z6b_okr, z6v_seal, B2.ofInts, B2.denI, B2.denB, if_true, Bool.false_eq_true, if_false, Nat.div_one, Nat.mul_one, Nat.add_zero]
 refine ⟨?_, fun h0 => ?_⟩
 refine ?a0; rotate_left
 have wf0 := wr_i64 (((((rows l).length : Nat)) : Int) + 4)
 refine ⟨?_, fun h1 => ?_⟩
 refine ?a1; rotate_left
 refine ⟨?_, fun h2 => ?_⟩
 refine ?a2; rotate_left
 refine ⟨?_, fun h3 => ?_⟩
 refine ?a3; rotate_left
 refine ⟨?_, fun h4 => ?_⟩
 refine ?a4; rotate_left
 refine ⟨?_, fun h5 => ?_⟩
 refine ?a5; rotate_left
 refine ⟨?_, fun h6 => ?_⟩
 refine ?a6; rotate_left
 ·
  simp only [rows_tup, List.append_assoc, List.cons_append, List.nil_append, sealV, sumB, wrap_u8, fd0, fd8, fd16, fd24]
 case a0 | a1 | a2 | a3 | a4 | a5 | a6 =>
  first
  | omega
  | (simp only [rows_tup, List.length_append, List.length_cons, List.length_nil, List.size_toArray]
     omega)
  | exact hc.1
theorem z6g_sealed : z6c_sealed.Good Tryd.prog syG (z6E [] [] [] []) := good_of_walk (Γ := ⟨[z6c_sum], syG, [], [], []⟩) (ρ := z6E [] [] [] []) sym sealed_w rfl (fun _ _ _ _ => (ok_cons (Con.Good.env z6g_sum _ _ _ _) ok_nil)) sealed_h
def num2_tree : Tree :=
 (.need (an_ (le_ (.lit 0) (wr_ (ad_ (.ofI (.vop (.len 1) (.cons o0_ .nil))) (.lit 2)))) (le_ (wr_ (ad_ (.ofI (.vop (.len 1) (.cons o0_ .nil))) (.lit 2))) (.lit 140737488355328)))
 (.need (le_ (ad_ (.lit 0) (.ofI (.vop (.len 1) (.cons o0_ .nil)))) (.lit 140737488355328))
 (.need (le_ (ad_ (.ofI (.vop (.len 1) (.cons o0_ .nil))) (.lit 1)) (.lit 140737488355328))
 (.need (le_ (ad_ (.ofI (.vop (.len 1) (.cons (.vop .cat (.cons o0_ (.cons (.tup (.cons (.int .u8 (.wrap .u8 v0_)) .nil)) .nil))) .nil))) (.lit 1)) (.lit 140737488355328))
 (.ret (.hs (.new 5) (.cons (.int .u8) .nil) (.vop .cat (.cons (.vop .cat (.cons o0_ (.cons (.tup (.cons (.int .u8 (.wrap .u8 v0_)) .nil)) .nil))) (.cons (.tup (.cons (.int .u8 (.wrap .u8 (.i2 (.shr .u64) v0_ (.lit 8)))) .nil)) .nil)))))))))
abbrev z6c_num2 : Con := ⟨84, [(.hs .no (.cons (.int .u8) .nil) o0_), (.int .u64 v0_), (.int .i64 (.lit 2))], (an_ (le_ (.ofI (.vop (.len 1) (.cons o0_ .nil))) (.lit 140737488355000)) (an_ (le_ (.lit 0) v0_) (le_ v0_ (.lit 18446744073709551615)))), (.hs (.new 5) (.cons (.int .u8) .nil) (.vapp 4 (.cons o0_ (.cons z0_ .nil)))), ⟨1, 0, 1, 0⟩, none⟩
theorem num2_w : walk Tryd.prog 101 ⟨[], syG, [], [], []⟩ [] (.o 5 (.cons (.int .u8) .nil)) z6c_num2 z6c_num2.n 3000 = some num2_tree := by kernel_rfl
theorem num2_h (v : Int) (l : Value) : Hyp_ z6c_num2 num2_tree (z6E [v] [] [l] []) := by
 intro hc hty
 simp only [z6c_num2, Sy.holds, z6E, denV, denI, denB, denL, I2.den, VOp.den, List.getD_cons_zero, List.getD_cons_succ, Cst.den, syso, syse, syio, sybo, B2.ofInts, B2.denI, B2.denB, if_true, Bool.false_eq_true, if_false, Nat.div_one, Nat.mul_one, Nat.add_zero] at hc
 simp only [z6c_num2, patsTyp, patTyp, patTypL, z6E, denV, denL, List.getD_cons_zero, List.getD_cons_succ, and_true, true_and] at hty
 have hL_l : typ (.sl (.cons (.int .u8) .nil)) l := by first | exact hty | exact hty.1 | exact hty.2 | exact hty.1.1 | exact hty.1.2 | exact hty.2.1 | exact hty.2.2 | exact hty.2.2.1 | exact hty.2.2.2
 have hN_l := typ_len (n := 1) hL_l rfl (by omega)
 simp only [Nat.div_one, Nat.mul_one] at hN_l
 unfold num2_tree
 simp only [z6c_num2, Tree.holds, Sy.holds, z6E, denV, denI, denB, denL, I2.den, VOp.den, List.getD_cons_zero, List.getD_cons_succ, Cst.den, syso, syse, syio, sybo, z6v_p2, B2.ofInts, B2.denI, B2.denB, if_true, Bool.false_eq_true, if_false, Nat.div_one, Nat.mul_one, Nat.add_zero]
 have wf0 := wr_i64 (((((rows l).length : Nat)) : Int) + 2)
 refine ⟨?_, fun h0 => ?_⟩
 refine ?a0; rotate_left
 refine ⟨?_, fun h1 => ?_⟩
 refine ?a1; rotate_left
 refine ⟨?_, fun h2 => ?_⟩
 refine ?a2; rotate_left
 have wf1 := wr_u8 v
 refine ⟨?_, fun h3 => ?_⟩
 refine ?a3; rotate_left
 ·
  simp only [rows_tup, List.append_assoc, List.cons_append, List.nil_append, putV, numB, fe8, wrap_u8]
 case a0 | a1 | a2 | a3 =>
  first
  | omega
  | (simp only [rows_tup, List.length_append, List.length_cons, List.length_nil, List.size_toArray]
     omega)
  | exact hc.1
theorem z6g_num2 : z6c_num2.Good Tryd.prog syG (z6E [] [] [] []) := good_of_walk (Γ := ⟨[], syG, [], [], []⟩) (ρ := z6E [] [] [] []) sym num2_w rfl (fun _ _ _ _ => ok_nil) num2_h
def num8_tree : Tree :=
 (.need (an_ (le_ (.lit 0) (wr_ (ad_ (.ofI (.vop (.len 1) (.cons o0_ .nil))) (.lit 8)))) (le_ (wr_ (ad_ (.ofI (.vop (.len 1) (.cons o0_ .nil))) (.lit 8))) (.lit 140737488355328)))
 (.need (le_ (ad_ (.lit 0) (.ofI (.vop (.len 1) (.cons o0_ .nil)))) (.lit 140737488355328))
 (.need (le_ (ad_ (.ofI (.vop (.len 1) (.cons o0_ .nil))) (.lit 1)) (.lit 140737488355328))
 (.need (le_ (ad_ (.ofI (.vop (.len 1) (.cons (.vop .cat (.cons o0_ (.cons (.tup (.cons (.int .u8 (.wrap .u8 v0_)) .nil)) .nil))) .nil))) (.lit 1)) (.lit 140737488355328))
 (.need (le_ (ad_ (.ofI (.vop (.len 1) (.cons (.vop .cat (.cons (.vop .cat (.cons o0_ (.cons (.tup (.cons (.int .u8 (.wrap .u8 v0_)) .nil)) .nil))) (.cons (.tup (.cons (.int .u8 (.wrap .u8 (.i2 (.shr .u64) v0_ (.lit 8)))) .nil)) .nil))) .nil))) (.lit 1)) (.lit 140737488355328))
 (.need (le_ (ad_ (.ofI (.vop (.len 1) (.cons (.vop .cat (.cons (.vop .cat (.cons (.vop .cat (.cons o0_ (.cons (.tup (.cons (.int .u8 (.wrap .u8 v0_)) .nil)) .nil))) (.cons (.tup (.cons (.int .u8 (.wrap .u8 (.i2 (.shr .u64) v0_ (.lit 8)))) .nil)) .nil))) (.cons (.tup (.cons (.int .u8 (.wrap .u8 (.i2 (.shr .u64) (.i2 (.shr .u64) v0_ (.lit 8)) (.lit 8)))) .nil)) .nil))) .nil))) (.lit 1)) (.lit 140737488355328))
 (.need (le_ (ad_ (.ofI (.vop (.len 1) (.cons (.vop .cat (.cons (.vop .cat (.cons (.vop .cat (.cons (.vop .cat (.cons o0_ (.cons (.tup (.cons (.int .u8 (.wrap .u8 v0_)) .nil)) .nil))) (.cons (.tup (.cons (.int .u8 (.wrap .u8 (.i2 (.shr .u64) v0_ (.lit 8)))) .nil)) .nil))) (.cons (.tup (.cons (.int .u8 (.wrap .u8 (.i2 (.shr .u64) (.i2 (.shr .u64) v0_ (.lit 8)) (.lit 8)))) .nil)) .nil))) (.cons (.tup (.cons (.int .u8 (.wrap .u8 (.i2 (.shr .u64) (.i2 (.shr .u64) (.i2 (.shr .u64) v0_ (.lit 8)) (.lit 8)) (.lit 8)))) .nil)) .nil))) .nil))) (.lit 1)) (.lit 140737488355328))
 (.need (le_ (ad_ (.ofI (.vop (.len 1) (.cons (.vop .cat (.cons (.vop .cat (.cons (.vop .cat (.cons (.vop .cat (.cons (.vop .cat (.cons o0_ (.cons (.tup (.cons (.int .u8 (.wrap .u8 v0_)) .nil)) .nil))) (.cons (.tup (.cons (.int .u8 (.wrap .u8 (.i2 (.shr .u64) v0_ (.lit 8)))) .nil)) .nil))) (.cons (.tup (.cons (.int .u8 (.wrap .u8 (.i2 (.shr .u64) (.i2 (.shr .u64) v0_ (.lit 8)) (.lit 8)))) .nil)) .nil))) (.cons (.tup (.cons (.int .u8 (.wrap .u8 (.i2 (.shr .u64) (.i2 (.shr .u64) (.i2 (.shr .u64) v0_ (.lit 8)) (.lit 8)) (.lit 8)))) .nil)) .nil))) (.cons (.tup (.cons (.int .u8 (.wrap .u8 (.i2 (.shr .u64) (.i2 (.shr .u64) (.i2 (.shr .u64) (.i2 (.shr .u64) v0_ (.lit 8)) (.lit 8)) (.lit 8)) (.lit 8)))) .nil)) .nil))) .nil))) (.lit 1)) (.lit 140737488355328))
 (.need (le_ (ad_ (.ofI (.vop (.len 1) (.cons (.vop .cat (.cons (.vop .cat (.cons (.vop .cat (.cons (.vop .cat (.cons (.vop .cat (.cons (.vop .cat (.cons o0_ (.cons (.tup (.cons (.int .u8 (.wrap .u8 v0_)) .nil)) .nil))) (.cons (.tup (.cons (.int .u8 (.wrap .u8 (.i2 (.shr .u64) v0_ (.lit 8)))) .nil)) .nil))) (.cons (.tup (.cons (.int .u8 (.wrap .u8 (.i2 (.shr .u64) (.i2 (.shr .u64) v0_ (.lit 8)) (.lit 8)))) .nil)) .nil))) (.cons (.tup (.cons (.int .u8 (.wrap .u8 (.i2 (.shr .u64) (.i2 (.shr .u64) (.i2 (.shr .u64) v0_ (.lit 8)) (.lit 8)) (.lit 8)))) .nil)) .nil))) (.cons (.tup (.cons (.int .u8 (.wrap .u8 (.i2 (.shr .u64) (.i2 (.shr .u64) (.i2 (.shr .u64) (.i2 (.shr .u64) v0_ (.lit 8)) (.lit 8)) (.lit 8)) (.lit 8)))) .nil)) .nil))) (.cons (.tup (.cons (.int .u8 (.wrap .u8 (.i2 (.shr .u64) (.i2 (.shr .u64) (.i2 (.shr .u64) (.i2 (.shr .u64) (.i2 (.shr .u64) v0_ (.lit 8)) (.lit 8)) (.lit 8)) (.lit 8)) (.lit 8)))) .nil)) .nil))) .nil))) (.lit 1)) (.lit 140737488355328))
 (.need (le_ (ad_ (.ofI (.vop (.len 1) (.cons (.vop .cat (.cons (.vop .cat (.cons (.vop .cat (.cons (.vop .cat (.cons (.vop .cat (.cons (.vop .cat (.cons (.vop .cat (.cons o0_ (.cons (.tup (.cons (.int .u8 (.wrap .u8 v0_)) .nil)) .nil))) (.cons (.tup (.cons (.int .u8 (.wrap .u8 (.i2 (.shr .u64) v0_ (.lit 8)))) .nil)) .nil))) (.cons (.tup (.cons (.int .u8 (.wrap .u8 (.i2 (.shr .u64) (.i2 (.shr .u64) v0_ (.lit 8)) (.lit 8)))) .nil)) .nil))) (.cons (.tup (.cons (.int .u8 (.wrap .u8 (.i2 (.shr .u64) (.i2 (.shr .u64) (.i2 (.shr .u64) v0_ (.lit 8)) (.lit 8)) (.lit 8)))) .nil)) .nil))) (.cons (.tup (.cons (.int .u8 (.wrap .u8 (.i2 (.shr .u64) (.i2 (.shr .u64) (.i2 (.shr .u64) (.i2 (.shr .u64) v0_ (.lit 8)) (.lit 8)) (.lit 8)) (.lit 8)))) .nil)) .nil))) (.cons (.tup (.cons (.int .u8 (.wrap .u8 (.i2 (.shr .u64) (.i2 (.shr .u64) (.i2 (.shr .u64) (.i2 (.shr .u64) (.i2 (.shr .u64) v0_ (.lit 8)) (.lit 8)) (.lit 8)) (.lit 8)) (.lit 8)))) .nil)) .nil))) (.cons (.tup (.cons (.int .u8 (.wrap .u8 (.i2 (.shr .u64) (.i2 (.shr .u64) (.i2 (.shr .u64) (.i2 (.shr .u64) (.i2 (.shr .u64) (.i2 (.shr .u64) v0_ (.lit 8)) (.lit 8)) (.lit 8)) (.lit 8)) (.lit 8)) (.lit 8)))) .nil)) .nil))) .nil))) (.lit 1)) (.lit 140737488355328))
 (.ret (.hs (.new 5) (.cons (.int .u8) .nil) (.vop .cat (.cons (.vop .cat (.cons (.vop .cat (.cons (.vop .cat (.cons (.vop .cat (.cons (.vop .cat (.cons (.vop .cat (.cons (.vop .cat (.cons o0_ (.cons (.tup (.cons (.int .u8 (.wrap .u8 v0_)) .nil)) .nil))) (.cons (.tup (.cons (.int .u8 (.wrap .u8 (.i2 (.shr .u64) v0_ (.lit 8)))) .nil)) .nil))) (.cons (.tup (.cons (.int .u8 (.wrap .u8 (.i2 (.shr .u64) (.i2 (.shr .u64) v0_ (.lit 8)) (.lit 8)))) .nil)) .nil))) (.cons (.tup (.cons (.int .u8 (.wrap .u8 (.i2 (.shr .u64) (.i2 (.shr .u64) (.i2 (.shr .u64) v0_ (.lit 8)) (.lit 8)) (.lit 8)))) .nil)) .nil))) (.cons (.tup (.cons (.int .u8 (.wrap .u8 (.i2 (.shr .u64) (.i2 (.shr .u64) (.i2 (.shr .u64) (.i2 (.shr .u64) v0_ (.lit 8)) (.lit 8)) (.lit 8)) (.lit 8)))) .nil)) .nil))) (.cons (.tup (.cons (.int .u8 (.wrap .u8 (.i2 (.shr .u64) (.i2 (.shr .u64) (.i2 (.shr .u64) (.i2 (.shr .u64) (.i2 (.shr .u64) v0_ (.lit 8)) (.lit 8)) (.lit 8)) (.lit 8)) (.lit 8)))) .nil)) .nil))) (.cons (.tup (.cons (.int .u8 (.wrap .u8 (.i2 (.shr .u64) (.i2 (.shr .u64) (.i2 (.shr .u64) (.i2 (.shr .u64) (.i2 (.shr .u64) (.i2 (.shr .u64) v0_ (.lit 8)) (.lit 8)) (.lit 8)) (.lit 8)) (.lit 8)) (.lit 8)))) .nil)) .nil))) (.cons (.tup (.cons (.int .u8 (.wrap .u8 (.i2 (.shr .u64) (.i2 (.shr .u64) (.i2 (.shr .u64) (.i2 (.shr .u64) (.i2 (.shr .u64) (.i2 (.shr .u64) (.i2 (.shr .u64) v0_ (.lit 8)) (.lit 8)) (.lit 8)) (.lit 8)) (.lit 8)) (.lit 8)) (.lit 8)))) .nil)) .nil)))))))))))))))
abbrev z6c_num8 : Con := ⟨84, [(.hs .no (.cons (.int .u8) .nil) o0_), (.int .u64 v0_), (.int .i64 (.lit 8))], (an_ (le_ (.ofI (.vop (.len 1) (.cons o0_ .nil))) (.lit 140737488355000)) (an_ (le_ (.lit 0) v0_) (le_ v0_ (.lit 18446744073709551615)))), (.hs (.new 5) (.cons (.int .u8) .nil) (.vapp 6 (.cons o0_ (.cons z0_ .nil)))), ⟨1, 0, 1, 0⟩, none⟩
theorem num8_w : walk Tryd.prog 101 ⟨[], syG, [], [], []⟩ [] (.o 5 (.cons (.int .u8) .nil)) z6c_num8 z6c_num8.n 3000 = some num8_tree := by kernel_rfl
theorem num8_h (v : Int) (l : Value) : Hyp_ z6c_num8 num8_tree (z6E [v] [] [l] []) := by
 intro hc hty
 simp only [z6c_num8, Sy.holds, z6E, denV, denI, denB, denL, I2.den, VOp.den, List.getD_cons_zero, List.getD_cons_succ, Cst.den, syso, syse, syio, sybo, B2.ofInts, B2.denI, B2.denB, if_true, Bool.false_eq_true, if_false, Nat.div_one, Nat.mul_one, Nat.add_zero] at hc
 simp only [z6c_num8, patsTyp, patTyp, patTypL, z6E, denV, denL, List.getD_cons_zero, List.getD_cons_succ, and_true, true_and] at hty
 have hL_l : typ (.sl (.cons (.int .u8) .nil)) l := by first | exact hty | exact hty.1 | exact hty.2 | exact hty.1.1 | exact hty.1.2 | exact hty.2.1 | exact hty.2.2 | exact hty.2.2.1 | exact hty.2.2.2
 have hN_l := typ_len (n := 1) hL_l rfl (by omega)
 simp only [Nat.div_one, Nat.mul_one] at hN_l
 unfold num8_tree
 simp only [z6c_num8, Tree.holds, Sy.holds, z6E, denV, denI, denB, denL, I2.den, VOp.den, List.getD_cons_zero, List.getD_cons_succ, Cst.den, syso, syse, syio, sybo, z6v_p8, B2.ofInts, B2.denI, B2.denB, if_true, Bool.false_eq_true, if_false, Nat.div_one, Nat.mul_one, Nat.add_zero]
 have wf0 := wr_i64 (((((rows l).length : Nat)) : Int) + 8)
 refine ⟨?_, fun h0 => ?_⟩
 refine ?a0; rotate_left
 refine ⟨?_, fun h1 => ?_⟩
 refine ?a1; rotate_left
 refine ⟨?_, fun h2 => ?_⟩
 refine ?a2; rotate_left
 have wf1 := wr_u8 v
 refine ⟨?_, fun h3 => ?_⟩
 refine ?a3; rotate_left
 refine ⟨?_, fun h4 => ?_⟩
 refine ?a4; rotate_left
 refine ⟨?_, fun h5 => ?_⟩
 refine ?a5; rotate_left
 refine ⟨?_, fun h6 => ?_⟩
 refine ?a6; rotate_left
 refine ⟨?_, fun h7 => ?_⟩
 refine ?a7; rotate_left
 refine ⟨?_, fun h8 => ?_⟩
 refine ?a8; rotate_left
 refine ⟨?_, fun h9 => ?_⟩
 refine ?a9; rotate_left
 ·
  simp only [rows_tup, List.append_assoc, List.cons_append, List.nil_append, putV, numB, fe8, wrap_u8]
 case a0 | a1 | a2 | a3 | a4 | a5 | a6 | a7 | a8 | a9 =>
  first
  | omega
  | (simp only [rows_tup, List.length_append, List.length_cons, List.length_nil, List.size_toArray]
     omega)
  | exact hc.1
theorem z6g_num8 : z6c_num8.Good Tryd.prog syG (z6E [] [] [] []) := good_of_walk (Γ := ⟨[], syG, [], [], []⟩) (ρ := z6E [] [] [] []) sym num8_w rfl (fun _ _ _ _ => ok_nil) num8_h
def u16p_tree : Tree :=
 (.need (an_ (le_ (.ofI (.vop (.len 1) (.cons o0_ .nil))) (.lit 140737488355000)) (an_ (le_ (.lit 0) (.wrap .u64 v0_)) (le_ (.wrap .u64 v0_) (.lit 18446744073709551615))))
 (.ret (.hs (.new 5) (.cons (.int .u8) .nil) (.vapp 4 (.cons o0_ (.cons (.int .i64 (.wrap .u64 v0_)) .nil))))))
abbrev z6c_u16p : Con := ⟨37, [(.hs .no (.cons (.int .u8) .nil) o0_), (.int .u16 v0_)], (an_ (le_ (.ofI (.vop (.len 1) (.cons o0_ .nil))) (.lit 140737488355000)) (an_ (le_ (.lit 0) v0_) (le_ v0_ (.lit 65535)))), (.hs (.new 5) (.cons (.int .u8) .nil) (.vapp 4 (.cons o0_ (.cons z0_ .nil)))), ⟨1, 0, 1, 0⟩, none⟩
theorem u16p_w : walk Tryd.prog 101 ⟨[z6c_num2], syG, [], [], []⟩ [] (.o 5 (.cons (.int .u8) .nil)) z6c_u16p z6c_u16p.n 3000 = some u16p_tree := by kernel_rfl
theorem u16p_h (v : Int) (l : Value) : Hyp_ z6c_u16p u16p_tree (z6E [v] [] [l] []) := by
 intro hc hty
 simp only [z6c_u16p, Sy.holds, z6E, denV, denI, denB, denL, I2.den, VOp.den, List.getD_cons_zero, List.getD_cons_succ, Cst.den, syso, syse, syio, sybo, B2.ofInts, B2.denI, B2.denB, if_true, Bool.false_eq_true, if_false, Nat.div_one, Nat.mul_one, Nat.add_zero] at hc
 simp only [z6c_u16p, patsTyp, patTyp, patTypL, z6E, denV, denL, List.getD_cons_zero, List.getD_cons_succ, and_true, true_and] at hty
 have hL_l : typ (.sl (.cons (.int .u8) .nil)) l := by first | exact hty | exact hty.1 | exact hty.2 | exact hty.1.1 | exact hty.1.2 | exact hty.2.1 | exact hty.2.2 | exact hty.2.2.1 | exact hty.2.2.2
 have hN_l := typ_len (n := 1) hL_l rfl (by omega)
 simp only [Nat.div_one, Nat.mul_one] at hN_l
 unfold u16p_tree
 simp only [z6c_u16p, Tree.holds, Sy.holds, z6E, denV, denI, denB, denL, I2.den, VOp.den, List.getD_cons_zero, List.getD_cons_succ, Cst.den, syso, syse, syio, sybo, z6v_p2, B2.ofInts, B2.denI, B2.denB, if_true, Bool.false_eq_true, if_false, Nat.div_one, Nat.mul_one, Nat.add_zero]
 have wf0 := wr_u64 v
 refine ⟨?_, fun h0 => ?_⟩
 ·
  exact ⟨by omega, by omega, by omega⟩
 ·
  rw [show IntKind.wrap .u64 v = v by omega]
theorem z6g_u16p : z6c_u16p.Good Tryd.prog syG (z6E [] [] [] []) := good_of_walk (Γ := ⟨[z6c_num2], syG, [], [], []⟩) (ρ := z6E [] [] [] []) sym u16p_w rfl (fun _ _ _ _ => (ok_cons (Con.Good.env z6g_num2 _ _ _ _) ok_nil)) u16p_h
end Go.Proofs.YtikfgnmljpjnbaaDoor
