/-
  Layer 23 by the second engine: derived keys, the laws.
-/
import Derived.Test.YtbgmbbkmadkhgaaSycqc
import Derived.Test.YtbgmbbkmadkhgaaZrqc
namespace Go.Proofs.Ytbgmbbkmadkhgaa
open Go.RowKit Go.Extern.Stop Go.Stop Go.Extern Go.Proofs.Ytbgmbbkmadkhgaa.Sy
set_option linter.unusedVariables false
set_option linter.unusedSimpArgs false
theorem numB_i64 {v : Int} (h0 : 0 ≤ v) (h1 : v ≤ 18446744073709551615) : numB (IntKind.wrap .i64 v) 8 = numB v 8 := by
  have hw := IntKind.wrap_i64 v
  by_cases h : v ≤ 9223372036854775807
  · rw [show IntKind.wrap .i64 v = v by omega]
  · have := numB_add 8 (v - 18446744073709551616) 1
    rw [show (1 : Int) * 256 ^ 8 = 18446744073709551616 by decide] at this
    rw [show IntKind.wrap .i64 v = v - 18446744073709551616 by omega, ← this]
    congr 1
    omega
theorem nB16 (a b : Int) : (numB a 8 ++ numB b 8).length = 16 := by rw [List.length_append, numB_len, numB_len]
theorem nBdrop (a b : Int) : List.drop (numB a 8 ++ numB b 8).length (List.take (Int.toNat 16) [Value.int .u8 0, Value.int .u8 0, Value.int .u8 0, Value.int .u8 0, Value.int .u8 0, Value.int .u8 0, Value.int .u8 0, Value.int .u8 0, Value.int .u8 0, Value.int .u8 0, Value.int .u8 0, Value.int .u8 0, Value.int .u8 0, Value.int .u8 0, Value.int .u8 0, Value.int .u8 0]) = [] := by rw [nB16]; rfl
theorem bytes8 (p : Int) : ([.int .u8 (IntKind.wrap .u8 (IntKind.wrap .u64 p)), .int .u8 (IntKind.wrap .u8 ((IntKind.wrap .u64 p).fdiv (2 ^ min (Int.toNat 8) IntKind.u64.bits))), .int .u8 (IntKind.wrap .u8 ((IntKind.wrap .u64 p).fdiv (2 ^ min (Int.toNat 16) IntKind.u64.bits))), .int .u8 (IntKind.wrap .u8 ((IntKind.wrap .u64 p).fdiv (2 ^ min (Int.toNat 24) IntKind.u64.bits))), .int .u8 (IntKind.wrap .u8 ((IntKind.wrap .u64 p).fdiv (2 ^ min (Int.toNat 32) IntKind.u64.bits))), .int .u8 (IntKind.wrap .u8 ((IntKind.wrap .u64 p).fdiv (2 ^ min (Int.toNat 40) IntKind.u64.bits))), .int .u8 (IntKind.wrap .u8 ((IntKind.wrap .u64 p).fdiv (2 ^ min (Int.toNat 48) IntKind.u64.bits))), .int .u8 (IntKind.wrap .u8 ((IntKind.wrap .u64 p).fdiv (2 ^ min (Int.toNat 56) IntKind.u64.bits)))] : List Value) = numB p 8 := by
  rw [show (IntKind.wrap .u64 p).fdiv (2 ^ min (Int.toNat 8) IntKind.u64.bits) = IntKind.wrap .u64 p / 256 from fdp _ 256 (by decide) (by decide), show (IntKind.wrap .u64 p).fdiv (2 ^ min (Int.toNat 16) IntKind.u64.bits) = IntKind.wrap .u64 p / 65536 from fdp _ 65536 (by decide) (by decide), show (IntKind.wrap .u64 p).fdiv (2 ^ min (Int.toNat 24) IntKind.u64.bits) = IntKind.wrap .u64 p / 16777216 from fdp _ 16777216 (by decide) (by decide), show (IntKind.wrap .u64 p).fdiv (2 ^ min (Int.toNat 32) IntKind.u64.bits) = IntKind.wrap .u64 p / 4294967296 from fdp _ 4294967296 (by decide) (by decide), show (IntKind.wrap .u64 p).fdiv (2 ^ min (Int.toNat 40) IntKind.u64.bits) = IntKind.wrap .u64 p / 1099511627776 from fdp _ 1099511627776 (by decide) (by decide), show (IntKind.wrap .u64 p).fdiv (2 ^ min (Int.toNat 48) IntKind.u64.bits) = IntKind.wrap .u64 p / 281474976710656 from fdp _ 281474976710656 (by decide) (by decide), show (IntKind.wrap .u64 p).fdiv (2 ^ min (Int.toNat 56) IntKind.u64.bits) = IntKind.wrap .u64 p / 72057594037927936 from fdp _ 72057594037927936 (by decide) (by decide)]
  simp only [numB, wrap_u8, wrap_u64, List.cons.injEq, Value.int.injEq, true_and, and_true]
  refine ⟨by omega, by omega, by omega, by omega, by omega, by omega, by omega, by omega⟩
theorem okR_64 {l : Value} (ht : typ (.sl (.cons (.int .i64) .nil)) l) (h : okR (Sy.rows l) = true) {k : Nat} (hk : k < (Sy.rows l).length) : -9223372036854775808 ≤ Go.RowKit.intOf ((Sy.rows l).getD k Go.undef) ∧ Go.RowKit.intOf ((Sy.rows l).getD k Go.undef) ≤ 9223372036854775807 := by
  obtain ⟨_, n, _, h2, h3⟩ := ht
  have e : ∀ i, i * (Sy.SK.cons (.int .i64) .nil).wd = i := fun i => Nat.mul_one i
  rw [e] at h2
  obtain ⟨g1, _⟩ := h3 k (by omega)
  rw [e] at g1
  have hm : (Sy.rows l).getD k Go.undef ∈ Sy.rows l := by
    rw [List.getD_eq_getElem?_getD, List.getElem?_eq_getElem hk]
    exact List.getElem_mem hk
  exact bounds_i64 (okR_iff.1 h _ hm _ _ g1)
def wnL (k : List UInt8) (l : List Value) (n : Int) (i : Nat) : List Value := (List.range i).map fun j => .int .u64 (numS k (Go.RowKit.intOf (l.getD j Go.undef)) n)
theorem wn_len (k : List UInt8) (l : List Value) (n : Int) (i : Nat) : (wnL k l n i).length = i := by unfold wnL; simp
theorem wn_get (k : List UInt8) (l : List Value) (n : Int) {i j : Nat} (h : j < i) : (wnL k l n i).getD j Go.undef = .int .u64 (numS k (Go.RowKit.intOf (l.getD j Go.undef)) n) := by
  unfold wnL
  rw [List.getD_eq_getElem?_getD, List.getElem?_map, List.getElem?_range h]
  rfl
theorem wn_succ (k : List UInt8) (l : List Value) (n : Int) (i : Nat) : wnL k l n (i + 1) = wnL k l n i ++ [.int .u64 (numS k (Go.RowKit.intOf (l.getD i Go.undef)) n)] := by
  unfold wnL
  rw [List.range_succ, List.map_append]
  rfl
noncomputable def zsI : Nat → List Value → Int
  | i, l => zrI i l
noncomputable def zsB : Nat → List Value → Bool
  | i, l => zrB i l
noncomputable def zsV : Nat → List Value → Value
  | 12, [k, l, .int _ n, .int _ i] => Value.tuple (wnL (byL (rows k)) (rows l) n i.toNat).toArray
  | i, l => zrV i l
noncomputable abbrev zsE (iv : List Int) (bv : List Bool) (vv : List Value) (sv : List ByteArray) : Env := { iv := iv, bv := bv, vv := vv, sv := sv, fi := zsI, fb := zsB, fv := zsV, et := 102 }
set_option maxHeartbeats 8000000 in
theorem zsup : Agree 19 4 12 (zrE [] [] [] []) (zsE [] [] [] []) := ⟨rfl, (by
    intro f hf
    funext l
    show zsI f l = zrI f l
    unfold zsI
    split <;> first | rfl | omega), (by
    intro f hf
    funext l
    show zsB f l = zrB f l
    unfold zsB
    split <;> first | rfl | omega), (by
    intro f hf
    funext l
    show zsV f l = zrV f l
    unfold zsV
    split <;> first | rfl | omega)⟩
theorem zsi_sip (k : Value) (l : Value) : zsI 16 [k, l] = sipS (byL (rows k)) (byL (rows l)) := rfl
theorem zsi_nb (k : Value) (k1 : IntKind) (p : Int) (k2 : IntKind) (n : Int) : zsI 17 [k, .int k1 p, .int k2 n] = numS (byL (rows k)) p n := rfl
theorem zsi_dv (k : Value) (k1 : IntKind) (u : Int) (k2 : IntKind) (j : Int) : zsI 18 [k, .int k1 u, .int k2 j] = Go.RowKit.intOf ((drvL (byL (rows k)) u).getD j.toNat Go.undef) := rfl
theorem zsb_okr (l : Value) : zsB 0 [l] = okR (rows l) := rfl
theorem zsb_eqv (x : Value) (y : Value) : zsB 3 [x, y] = eqV x y := rfl
theorem zsv_p8 (l : Value) (k1 : IntKind) (v : Int) : zsV 6 [l, .int k1 v] = putV (rows l) v 8 := rfl
theorem zsv_wn (k : Value) (l : Value) (k1 : IntKind) (n : Int) (k2 : IntKind) (i : Int) : zsV 12 [k, l, .int k1 n, .int k2 i] = Value.tuple (wnL (byL (rows k)) (rows l) n i.toNat).toArray := rfl
def pder_tree : Tree :=
 (.need (an_ (.bapp 0 (.cons (.tup (.cons (.int .u8 v0_) (.cons (.int .u8 v1_) (.cons (.int .u8 v2_) (.cons (.int .u8 v3_) (.cons (.int .u8 v4_) (.cons (.int .u8 v5_) (.cons (.int .u8 v6_) (.cons (.int .u8 v7_) (.cons (.int .u8 v8_) (.cons (.int .u8 v9_) (.cons (.int .u8 (.var 10)) (.cons (.int .u8 (.var 11)) (.cons (.int .u8 (.var 12)) (.cons (.int .u8 (.var 13)) (.cons (.int .u8 (.var 14)) (.cons (.int .u8 (.var 15)) .nil))))))))))))))))) .nil)) (an_ (.bapp 0 (.cons (.tup (.cons (.int .u8 (.var 16)) (.cons (.int .u8 (.lit 0)) .nil))) .nil)) (le_ (.ofI (.vop (.len 1) (.cons (.tup (.cons (.int .u8 (.var 16)) (.cons (.int .u8 (.lit 0)) .nil))) .nil))) (.lit 70368744177664))))
 (.need (an_ (.bapp 0 (.cons (.tup (.cons (.int .u8 v0_) (.cons (.int .u8 v1_) (.cons (.int .u8 v2_) (.cons (.int .u8 v3_) (.cons (.int .u8 v4_) (.cons (.int .u8 v5_) (.cons (.int .u8 v6_) (.cons (.int .u8 v7_) (.cons (.int .u8 v8_) (.cons (.int .u8 v9_) (.cons (.int .u8 (.var 10)) (.cons (.int .u8 (.var 11)) (.cons (.int .u8 (.var 12)) (.cons (.int .u8 (.var 13)) (.cons (.int .u8 (.var 14)) (.cons (.int .u8 (.var 15)) .nil))))))))))))))))) .nil)) (an_ (.bapp 0 (.cons (.tup (.cons (.int .u8 (.var 16)) (.cons (.int .u8 (.lit 1)) .nil))) .nil)) (le_ (.ofI (.vop (.len 1) (.cons (.tup (.cons (.int .u8 (.var 16)) (.cons (.int .u8 (.lit 1)) .nil))) .nil))) (.lit 70368744177664))))
 (.need (an_ (le_ (.ofI (.vop (.len 1) (.cons (.tup .nil) .nil))) (.lit 70368744177664)) (an_ (le_ lm_ (wr_ (.iapp 16 (.cons (.tup (.cons (.int .u8 v0_) (.cons (.int .u8 v1_) (.cons (.int .u8 v2_) (.cons (.int .u8 v3_) (.cons (.int .u8 v4_) (.cons (.int .u8 v5_) (.cons (.int .u8 v6_) (.cons (.int .u8 v7_) (.cons (.int .u8 v8_) (.cons (.int .u8 v9_) (.cons (.int .u8 (.var 10)) (.cons (.int .u8 (.var 11)) (.cons (.int .u8 (.var 12)) (.cons (.int .u8 (.var 13)) (.cons (.int .u8 (.var 14)) (.cons (.int .u8 (.var 15)) .nil))))))))))))))))) (.cons (.tup (.cons (.int .u8 (.var 16)) (.cons (.int .u8 (.lit 0)) .nil))) .nil))))) (le_ (wr_ (.iapp 16 (.cons (.tup (.cons (.int .u8 v0_) (.cons (.int .u8 v1_) (.cons (.int .u8 v2_) (.cons (.int .u8 v3_) (.cons (.int .u8 v4_) (.cons (.int .u8 v5_) (.cons (.int .u8 v6_) (.cons (.int .u8 v7_) (.cons (.int .u8 v8_) (.cons (.int .u8 v9_) (.cons (.int .u8 (.var 10)) (.cons (.int .u8 (.var 11)) (.cons (.int .u8 (.var 12)) (.cons (.int .u8 (.var 13)) (.cons (.int .u8 (.var 14)) (.cons (.int .u8 (.var 15)) .nil))))))))))))))))) (.cons (.tup (.cons (.int .u8 (.var 16)) (.cons (.int .u8 (.lit 0)) .nil))) .nil)))) lM_)))
 (.need (an_ (le_ (.ofI (.vop (.len 1) (.cons (.vapp 6 (.cons (.tup .nil) (.cons (.int .i64 (wr_ (.iapp 16 (.cons (.tup (.cons (.int .u8 v0_) (.cons (.int .u8 v1_) (.cons (.int .u8 v2_) (.cons (.int .u8 v3_) (.cons (.int .u8 v4_) (.cons (.int .u8 v5_) (.cons (.int .u8 v6_) (.cons (.int .u8 v7_) (.cons (.int .u8 v8_) (.cons (.int .u8 v9_) (.cons (.int .u8 (.var 10)) (.cons (.int .u8 (.var 11)) (.cons (.int .u8 (.var 12)) (.cons (.int .u8 (.var 13)) (.cons (.int .u8 (.var 14)) (.cons (.int .u8 (.var 15)) .nil))))))))))))))))) (.cons (.tup (.cons (.int .u8 (.var 16)) (.cons (.int .u8 (.lit 0)) .nil))) .nil))))) .nil))) .nil))) (.lit 70368744177664)) (an_ (le_ lm_ (wr_ (.iapp 16 (.cons (.tup (.cons (.int .u8 v0_) (.cons (.int .u8 v1_) (.cons (.int .u8 v2_) (.cons (.int .u8 v3_) (.cons (.int .u8 v4_) (.cons (.int .u8 v5_) (.cons (.int .u8 v6_) (.cons (.int .u8 v7_) (.cons (.int .u8 v8_) (.cons (.int .u8 v9_) (.cons (.int .u8 (.var 10)) (.cons (.int .u8 (.var 11)) (.cons (.int .u8 (.var 12)) (.cons (.int .u8 (.var 13)) (.cons (.int .u8 (.var 14)) (.cons (.int .u8 (.var 15)) .nil))))))))))))))))) (.cons (.tup (.cons (.int .u8 (.var 16)) (.cons (.int .u8 (.lit 1)) .nil))) .nil))))) (le_ (wr_ (.iapp 16 (.cons (.tup (.cons (.int .u8 v0_) (.cons (.int .u8 v1_) (.cons (.int .u8 v2_) (.cons (.int .u8 v3_) (.cons (.int .u8 v4_) (.cons (.int .u8 v5_) (.cons (.int .u8 v6_) (.cons (.int .u8 v7_) (.cons (.int .u8 v8_) (.cons (.int .u8 v9_) (.cons (.int .u8 (.var 10)) (.cons (.int .u8 (.var 11)) (.cons (.int .u8 (.var 12)) (.cons (.int .u8 (.var 13)) (.cons (.int .u8 (.var 14)) (.cons (.int .u8 (.var 15)) .nil))))))))))))))))) (.cons (.tup (.cons (.int .u8 (.var 16)) (.cons (.int .u8 (.lit 1)) .nil))) .nil)))) lM_)))
 (.ret (.agg (.cons (.int .u8 (.ofI (.vop (.sel 1 0) (.cons (.vop .cat (.cons (.vapp 6 (.cons (.vapp 6 (.cons (.tup .nil) (.cons (.int .i64 (wr_ (.iapp 16 (.cons (.tup (.cons (.int .u8 v0_) (.cons (.int .u8 v1_) (.cons (.int .u8 v2_) (.cons (.int .u8 v3_) (.cons (.int .u8 v4_) (.cons (.int .u8 v5_) (.cons (.int .u8 v6_) (.cons (.int .u8 v7_) (.cons (.int .u8 v8_) (.cons (.int .u8 v9_) (.cons (.int .u8 (.var 10)) (.cons (.int .u8 (.var 11)) (.cons (.int .u8 (.var 12)) (.cons (.int .u8 (.var 13)) (.cons (.int .u8 (.var 14)) (.cons (.int .u8 (.var 15)) .nil))))))))))))))))) (.cons (.tup (.cons (.int .u8 (.var 16)) (.cons (.int .u8 (.lit 0)) .nil))) .nil))))) .nil))) (.cons (.int .i64 (wr_ (.iapp 16 (.cons (.tup (.cons (.int .u8 v0_) (.cons (.int .u8 v1_) (.cons (.int .u8 v2_) (.cons (.int .u8 v3_) (.cons (.int .u8 v4_) (.cons (.int .u8 v5_) (.cons (.int .u8 v6_) (.cons (.int .u8 v7_) (.cons (.int .u8 v8_) (.cons (.int .u8 v9_) (.cons (.int .u8 (.var 10)) (.cons (.int .u8 (.var 11)) (.cons (.int .u8 (.var 12)) (.cons (.int .u8 (.var 13)) (.cons (.int .u8 (.var 14)) (.cons (.int .u8 (.var 15)) .nil))))))))))))))))) (.cons (.tup (.cons (.int .u8 (.var 16)) (.cons (.int .u8 (.lit 1)) .nil))) .nil))))) .nil))) (.cons (.vop (.sub 1) (.cons (.tup (.cons (.int .u8 (.lit 0)) (.cons (.int .u8 (.lit 0)) (.cons (.int .u8 (.lit 0)) (.cons (.int .u8 (.lit 0)) (.cons (.int .u8 (.lit 0)) (.cons (.int .u8 (.lit 0)) (.cons (.int .u8 (.lit 0)) (.cons (.int .u8 (.lit 0)) (.cons (.int .u8 (.lit 0)) (.cons (.int .u8 (.lit 0)) (.cons (.int .u8 (.lit 0)) (.cons (.int .u8 (.lit 0)) (.cons (.int .u8 (.lit 0)) (.cons (.int .u8 (.lit 0)) (.cons (.int .u8 (.lit 0)) (.cons (.int .u8 (.lit 0)) .nil))))))))))))))))) (.cons (.int .i64 (.ofI (.vop (.len 1) (.cons (.vapp 6 (.cons (.vapp 6 (.cons (.tup .nil) (.cons (.int .i64 (wr_ (.iapp 16 (.cons (.tup (.cons (.int .u8 v0_) (.cons (.int .u8 v1_) (.cons (.int .u8 v2_) (.cons (.int .u8 v3_) (.cons (.int .u8 v4_) (.cons (.int .u8 v5_) (.cons (.int .u8 v6_) (.cons (.int .u8 v7_) (.cons (.int .u8 v8_) (.cons (.int .u8 v9_) (.cons (.int .u8 (.var 10)) (.cons (.int .u8 (.var 11)) (.cons (.int .u8 (.var 12)) (.cons (.int .u8 (.var 13)) (.cons (.int .u8 (.var 14)) (.cons (.int .u8 (.var 15)) .nil))))))))))))))))) (.cons (.tup (.cons (.int .u8 (.var 16)) (.cons (.int .u8 (.lit 0)) .nil))) .nil))))) .nil))) (.cons (.int .i64 (wr_ (.iapp 16 (.cons (.tup (.cons (.int .u8 v0_) (.cons (.int .u8 v1_) (.cons (.int .u8 v2_) (.cons (.int .u8 v3_) (.cons (.int .u8 v4_) (.cons (.int .u8 v5_) (.cons (.int .u8 v6_) (.cons (.int .u8 v7_) (.cons (.int .u8 v8_) (.cons (.int .u8 v9_) (.cons (.int .u8 (.var 10)) (.cons (.int .u8 (.var 11)) (.cons (.int .u8 (.var 12)) (.cons (.int .u8 (.var 13)) (.cons (.int .u8 (.var 14)) (.cons (.int .u8 (.var 15)) .nil))))))))))))))))) (.cons (.tup (.cons (.int .u8 (.var 16)) (.cons (.int .u8 (.lit 1)) .nil))) .nil))))) .nil))) .nil)))) (.cons (.int .i64 (.lit 16)) .nil)))) .nil))) (.cons (.int .i64 (.lit 0)) .nil))))) (.cons (.int .u8 (.ofI (.vop (.sel 1 0) (.cons (.vop .cat (.cons (.vapp 6 (.cons (.vapp 6 (.cons (.tup .nil) (.cons (.int .i64 (wr_ (.iapp 16 (.cons (.tup (.cons (.int .u8 v0_) (.cons (.int .u8 v1_) (.cons (.int .u8 v2_) (.cons (.int .u8 v3_) (.cons (.int .u8 v4_) (.cons (.int .u8 v5_) (.cons (.int .u8 v6_) (.cons (.int .u8 v7_) (.cons (.int .u8 v8_) (.cons (.int .u8 v9_) (.cons (.int .u8 (.var 10)) (.cons (.int .u8 (.var 11)) (.cons (.int .u8 (.var 12)) (.cons (.int .u8 (.var 13)) (.cons (.int .u8 (.var 14)) (.cons (.int .u8 (.var 15)) .nil))))))))))))))))) (.cons (.tup (.cons (.int .u8 (.var 16)) (.cons (.int .u8 (.lit 0)) .nil))) .nil))))) .nil))) (.cons (.int .i64 (wr_ (.iapp 16 (.cons (.tup (.cons (.int .u8 v0_) (.cons (.int .u8 v1_) (.cons (.int .u8 v2_) (.cons (.int .u8 v3_) (.cons (.int .u8 v4_) (.cons (.int .u8 v5_) (.cons (.int .u8 v6_) (.cons (.int .u8 v7_) (.cons (.int .u8 v8_) (.cons (.int .u8 v9_) (.cons (.int .u8 (.var 10)) (.cons (.int .u8 (.var 11)) (.cons (.int .u8 (.var 12)) (.cons (.int .u8 (.var 13)) (.cons (.int .u8 (.var 14)) (.cons (.int .u8 (.var 15)) .nil))))))))))))))))) (.cons (.tup (.cons (.int .u8 (.var 16)) (.cons (.int .u8 (.lit 1)) .nil))) .nil))))) .nil))) (.cons (.vop (.sub 1) (.cons (.tup (.cons (.int .u8 (.lit 0)) (.cons (.int .u8 (.lit 0)) (.cons (.int .u8 (.lit 0)) (.cons (.int .u8 (.lit 0)) (.cons (.int .u8 (.lit 0)) (.cons (.int .u8 (.lit 0)) (.cons (.int .u8 (.lit 0)) (.cons (.int .u8 (.lit 0)) (.cons (.int .u8 (.lit 0)) (.cons (.int .u8 (.lit 0)) (.cons (.int .u8 (.lit 0)) (.cons (.int .u8 (.lit 0)) (.cons (.int .u8 (.lit 0)) (.cons (.int .u8 (.lit 0)) (.cons (.int .u8 (.lit 0)) (.cons (.int .u8 (.lit 0)) .nil))))))))))))))))) (.cons (.int .i64 (.ofI (.vop (.len 1) (.cons (.vapp 6 (.cons (.vapp 6 (.cons (.tup .nil) (.cons (.int .i64 (wr_ (.iapp 16 (.cons (.tup (.cons (.int .u8 v0_) (.cons (.int .u8 v1_) (.cons (.int .u8 v2_) (.cons (.int .u8 v3_) (.cons (.int .u8 v4_) (.cons (.int .u8 v5_) (.cons (.int .u8 v6_) (.cons (.int .u8 v7_) (.cons (.int .u8 v8_) (.cons (.int .u8 v9_) (.cons (.int .u8 (.var 10)) (.cons (.int .u8 (.var 11)) (.cons (.int .u8 (.var 12)) (.cons (.int .u8 (.var 13)) (.cons (.int .u8 (.var 14)) (.cons (.int .u8 (.var 15)) .nil))))))))))))))))) (.cons (.tup (.cons (.int .u8 (.var 16)) (.cons (.int .u8 (.lit 0)) .nil))) .nil))))) .nil))) (.cons (.int .i64 (wr_ (.iapp 16 (.cons (.tup (.cons (.int .u8 v0_) (.cons (.int .u8 v1_) (.cons (.int .u8 v2_) (.cons (.int .u8 v3_) (.cons (.int .u8 v4_) (.cons (.int .u8 v5_) (.cons (.int .u8 v6_) (.cons (.int .u8 v7_) (.cons (.int .u8 v8_) (.cons (.int .u8 v9_) (.cons (.int .u8 (.var 10)) (.cons (.int .u8 (.var 11)) (.cons (.int .u8 (.var 12)) (.cons (.int .u8 (.var 13)) (.cons (.int .u8 (.var 14)) (.cons (.int .u8 (.var 15)) .nil))))))))))))))))) (.cons (.tup (.cons (.int .u8 (.var 16)) (.cons (.int .u8 (.lit 1)) .nil))) .nil))))) .nil))) .nil)))) (.cons (.int .i64 (.lit 16)) .nil)))) .nil))) (.cons (.int .i64 (.lit 1)) .nil))))) (.cons (.int .u8 (.ofI (.vop (.sel 1 0) (.cons (.vop .cat (.cons (.vapp 6 (.cons (.vapp 6 (.cons (.tup .nil) (.cons (.int .i64 (wr_ (.iapp 16 (.cons (.tup (.cons (.int .u8 v0_) (.cons (.int .u8 v1_) (.cons (.int .u8 v2_) (.cons (.int .u8 v3_) (.cons (.int .u8 v4_) (.cons (.int .u8 v5_) (.cons (.int .u8 v6_) (.cons (.int .u8 v7_) (.cons (.int .u8 v8_) (.cons (.int .u8 v9_) (.cons (.int .u8 (.var 10)) (.cons (.int .u8 (.var 11)) (.cons (.int .u8 (.var 12)) (.cons (.int .u8 (.var 13)) (.cons (.int .u8 (.var 14)) (.cons (.int .u8 (.var 15)) .nil))))))))))))))))) (.cons (.tup (.cons (.int .u8 (.var 16)) (.cons (.int .u8 (.lit 0)) .nil))) .nil))))) .nil))) (.cons (.int .i64 (wr_ (.iapp 16 (.cons (.tup (.cons (.int .u8 v0_) (.cons (.int .u8 v1_) (.cons (.int .u8 v2_) (.cons (.int .u8 v3_) (.cons (.int .u8 v4_) (.cons (.int .u8 v5_) (.cons (.int .u8 v6_) (.cons (.int .u8 v7_) (.cons (.int .u8 v8_) (.cons (.int .u8 v9_) (.cons (.int .u8 (.var 10)) (.cons (.int .u8 (.var 11)) (.cons (.int .u8 (.var 12)) (.cons (.int .u8 (.var 13)) (.cons (.int .u8 (.var 14)) (.cons (.int .u8 (.var 15)) .nil))))))))))))))))) (.cons (.tup (.cons (.int .u8 (.var 16)) (.cons (.int .u8 (.lit 1)) .nil))) .nil))))) .nil))) (.cons (.vop (.sub 1) (.cons (.tup (.cons (.int .u8 (.lit 0)) (.cons (.int .u8 (.lit 0)) (.cons (.int .u8 (.lit 0)) (.cons (.int .u8 (.lit 0)) (.cons (.int .u8 (.lit 0)) (.cons (.int .u8 (.lit 0)) (.cons (.int .u8 (.lit 0)) (.cons (.int .u8 (.lit 0)) (.cons (.int .u8 (.lit 0)) (.cons (.int .u8 (.lit 0)) (.cons (.int .u8 (.lit 0)) (.cons (.int .u8 (.lit 0)) (.cons (.int .u8 (.lit 0)) (.cons (.int .u8 (.lit 0)) (.cons (.int .u8 (.lit 0)) (.cons (.int .u8 (.lit 0)) .nil))))))))))))))))) (.cons (.int .i64 (.ofI (.vop (.len 1) (.cons (.vapp 6 (.cons (.vapp 6 (.cons (.tup .nil) (.cons (.int .i64 (wr_ (.iapp 16 (.cons (.tup (.cons (.int .u8 v0_) (.cons (.int .u8 v1_) (.cons (.int .u8 v2_) (.cons (.int .u8 v3_) (.cons (.int .u8 v4_) (.cons (.int .u8 v5_) (.cons (.int .u8 v6_) (.cons (.int .u8 v7_) (.cons (.int .u8 v8_) (.cons (.int .u8 v9_) (.cons (.int .u8 (.var 10)) (.cons (.int .u8 (.var 11)) (.cons (.int .u8 (.var 12)) (.cons (.int .u8 (.var 13)) (.cons (.int .u8 (.var 14)) (.cons (.int .u8 (.var 15)) .nil))))))))))))))))) (.cons (.tup (.cons (.int .u8 (.var 16)) (.cons (.int .u8 (.lit 0)) .nil))) .nil))))) .nil))) (.cons (.int .i64 (wr_ (.iapp 16 (.cons (.tup (.cons (.int .u8 v0_) (.cons (.int .u8 v1_) (.cons (.int .u8 v2_) (.cons (.int .u8 v3_) (.cons (.int .u8 v4_) (.cons (.int .u8 v5_) (.cons (.int .u8 v6_) (.cons (.int .u8 v7_) (.cons (.int .u8 v8_) (.cons (.int .u8 v9_) (.cons (.int .u8 (.var 10)) (.cons (.int .u8 (.var 11)) (.cons (.int .u8 (.var 12)) (.cons (.int .u8 (.var 13)) (.cons (.int .u8 (.var 14)) (.cons (.int .u8 (.var 15)) .nil))))))))))))))))) (.cons (.tup (.cons (.int .u8 (.var 16)) (.cons (.int .u8 (.lit 1)) .nil))) .nil))))) .nil))) .nil)))) (.cons (.int .i64 (.lit 16)) .nil)))) .nil))) (.cons (.int .i64 (.lit 2)) .nil))))) (.cons (.int .u8 (.ofI (.vop (.sel 1 0) (.cons (.vop .cat (.cons (.vapp 6 (.cons (.vapp 6 (.cons (.tup .nil) (.cons (.int .i64 (wr_ (.iapp 16 (.cons (.tup (.cons (.int .u8 v0_) (.cons (.int .u8 v1_) (.cons (.int .u8 v2_) (.cons (.int .u8 v3_) (.cons (.int .u8 v4_) (.cons (.int .u8 v5_) (.cons (.int .u8 v6_) (.cons (.int .u8 v7_) (.cons (.int .u8 v8_) (.cons (.int .u8 v9_) (.cons (.int .u8 (.var 10)) (.cons (.int .u8 (.var 11)) (.cons (.int .u8 (.var 12)) (.cons (.int .u8 (.var 13)) (.cons (.int .u8 (.var 14)) (.cons (.int .u8 (.var 15)) .nil))))))))))))))))) (.cons (.tup (.cons (.int .u8 (.var 16)) (.cons (.int .u8 (.lit 0)) .nil))) .nil))))) .nil))) (.cons (.int .i64 (wr_ (.iapp 16 (.cons (.tup (.cons (.int .u8 v0_) (.cons (.int .u8 v1_) (.cons (.int .u8 v2_) (.cons (.int .u8 v3_) (.cons (.int .u8 v4_) (.cons (.int .u8 v5_) (.cons (.int .u8 v6_) (.cons (.int .u8 v7_) (.cons (.int .u8 v8_) (.cons (.int .u8 v9_) (.cons (.int .u8 (.var 10)) (.cons (.int .u8 (.var 11)) (.cons (.int .u8 (.var 12)) (.cons (.int .u8 (.var 13)) (.cons (.int .u8 (.var 14)) (.cons (.int .u8 (.var 15)) .nil))))))))))))))))) (.cons (.tup (.cons (.int .u8 (.var 16)) (.cons (.int .u8 (.lit 1)) .nil))) .nil))))) .nil))) (.cons (.vop (.sub 1) (.cons (.tup (.cons (.int .u8 (.lit 0)) (.cons (.int .u8 (.lit 0)) (.cons (.int .u8 (.lit 0)) (.cons (.int .u8 (.lit 0)) (.cons (.int .u8 (.lit 0)) (.cons (.int .u8 (.lit 0)) (.cons (.int .u8 (.lit 0)) (.cons (.int .u8 (.lit 0)) (.cons (.int .u8 (.lit 0)) (.cons (.int .u8 (.lit 0)) (.cons (.int .u8 (.lit 0)) (.cons (.int .u8 (.lit 0)) (.cons (.int .u8 (.lit 0)) (.cons (.int .u8 (.lit 0)) (.cons (.int .u8 (.lit 0)) (.cons (.int .u8 (.lit 0)) .nil))))))))))))))))) (.cons (.int .i64 (.ofI (.vop (.len 1) (.cons (.vapp 6 (.cons (.vapp 6 (.cons (.tup .nil) (.cons (.int .i64 (wr_ (.iapp 16 (.cons (.tup (.cons (.int .u8 v0_) (.cons (.int .u8 v1_) (.cons (.int .u8 v2_) (.cons (.int .u8 v3_) (.cons (.int .u8 v4_) (.cons (.int .u8 v5_) (.cons (.int .u8 v6_) (.cons (.int .u8 v7_) (.cons (.int .u8 v8_) (.cons (.int .u8 v9_) (.cons (.int .u8 (.var 10)) (.cons (.int .u8 (.var 11)) (.cons (.int .u8 (.var 12)) (.cons (.int .u8 (.var 13)) (.cons (.int .u8 (.var 14)) (.cons (.int .u8 (.var 15)) .nil))))))))))))))))) (.cons (.tup (.cons (.int .u8 (.var 16)) (.cons (.int .u8 (.lit 0)) .nil))) .nil))))) .nil))) (.cons (.int .i64 (wr_ (.iapp 16 (.cons (.tup (.cons (.int .u8 v0_) (.cons (.int .u8 v1_) (.cons (.int .u8 v2_) (.cons (.int .u8 v3_) (.cons (.int .u8 v4_) (.cons (.int .u8 v5_) (.cons (.int .u8 v6_) (.cons (.int .u8 v7_) (.cons (.int .u8 v8_) (.cons (.int .u8 v9_) (.cons (.int .u8 (.var 10)) (.cons (.int .u8 (.var 11)) (.cons (.int .u8 (.var 12)) (.cons (.int .u8 (.var 13)) (.cons (.int .u8 (.var 14)) (.cons (.int .u8 (.var 15)) .nil))))))))))))))))) (.cons (.tup (.cons (.int .u8 (.var 16)) (.cons (.int .u8 (.lit 1)) .nil))) .nil))))) .nil))) .nil)))) (.cons (.int .i64 (.lit 16)) .nil)))) .nil))) (.cons (.int .i64 (.lit 3)) .nil))))) (.cons (.int .u8 (.ofI (.vop (.sel 1 0) (.cons (.vop .cat (.cons (.vapp 6 (.cons (.vapp 6 (.cons (.tup .nil) (.cons (.int .i64 (wr_ (.iapp 16 (.cons (.tup (.cons (.int .u8 v0_) (.cons (.int .u8 v1_) (.cons (.int .u8 v2_) (.cons (.int .u8 v3_) (.cons (.int .u8 v4_) (.cons (.int .u8 v5_) (.cons (.int .u8 v6_) (.cons (.int .u8 v7_) (.cons (.int .u8 v8_) (.cons (.int .u8 v9_) (.cons (.int .u8 (.var 10)) (.cons (.int .u8 (.var 11)) (.cons (.int .u8 (.var 12)) (.cons (.int .u8 (.var 13)) (.cons (.int .u8 (.var 14)) (.cons (.int .u8 (.var 15)) .nil))))))))))))))))) (.cons (.tup (.cons (.int .u8 (.var 16)) (.cons (.int .u8 (.lit 0)) .nil))) .nil))))) .nil))) (.cons (.int .i64 (wr_ (.iapp 16 (.cons (.tup (.cons (.int .u8 v0_) (.cons (.int .u8 v1_) (.cons (.int .u8 v2_) (.cons (.int .u8 v3_) (.cons (.int .u8 v4_) (.cons (.int .u8 v5_) (.cons (.int .u8 v6_) (.cons (.int .u8 v7_) (.cons (.int .u8 v8_) (.cons (.int .u8 v9_) (.cons (.int .u8 (.var 10)) (.cons (.int .u8 (.var 11)) (.cons (.int .u8 (.var 12)) (.cons (.int .u8 (.var 13)) (.cons (.int .u8 (.var 14)) (.cons (.int .u8 (.var 15)) .nil))))))))))))))))) (.cons (.tup (.cons (.int .u8 (.var 16)) (.cons (.int .u8 (.lit 1)) .nil))) .nil))))) .nil))) (.cons (.vop (.sub 1) (.cons (.tup (.cons (.int .u8 (.lit 0)) (.cons (.int .u8 (.lit 0)) (.cons (.int .u8 (.lit 0)) (.cons (.int .u8 (.lit 0)) (.cons (.int .u8 (.lit 0)) (.cons (.int .u8 (.lit 0)) (.cons (.int .u8 (.lit 0)) (.cons (.int .u8 (.lit 0)) (.cons (.int .u8 (.lit 0)) (.cons (.int .u8 (.lit 0)) (.cons (.int .u8 (.lit 0)) (.cons (.int .u8 (.lit 0)) (.cons (.int .u8 (.lit 0)) (.cons (.int .u8 (.lit 0)) (.cons (.int .u8 (.lit 0)) (.cons (.int .u8 (.lit 0)) .nil))))))))))))))))) (.cons (.int .i64 (.ofI (.vop (.len 1) (.cons (.vapp 6 (.cons (.vapp 6 (.cons (.tup .nil) (.cons (.int .i64 (wr_ (.iapp 16 (.cons (.tup (.cons (.int .u8 v0_) (.cons (.int .u8 v1_) (.cons (.int .u8 v2_) (.cons (.int .u8 v3_) (.cons (.int .u8 v4_) (.cons (.int .u8 v5_) (.cons (.int .u8 v6_) (.cons (.int .u8 v7_) (.cons (.int .u8 v8_) (.cons (.int .u8 v9_) (.cons (.int .u8 (.var 10)) (.cons (.int .u8 (.var 11)) (.cons (.int .u8 (.var 12)) (.cons (.int .u8 (.var 13)) (.cons (.int .u8 (.var 14)) (.cons (.int .u8 (.var 15)) .nil))))))))))))))))) (.cons (.tup (.cons (.int .u8 (.var 16)) (.cons (.int .u8 (.lit 0)) .nil))) .nil))))) .nil))) (.cons (.int .i64 (wr_ (.iapp 16 (.cons (.tup (.cons (.int .u8 v0_) (.cons (.int .u8 v1_) (.cons (.int .u8 v2_) (.cons (.int .u8 v3_) (.cons (.int .u8 v4_) (.cons (.int .u8 v5_) (.cons (.int .u8 v6_) (.cons (.int .u8 v7_) (.cons (.int .u8 v8_) (.cons (.int .u8 v9_) (.cons (.int .u8 (.var 10)) (.cons (.int .u8 (.var 11)) (.cons (.int .u8 (.var 12)) (.cons (.int .u8 (.var 13)) (.cons (.int .u8 (.var 14)) (.cons (.int .u8 (.var 15)) .nil))))))))))))))))) (.cons (.tup (.cons (.int .u8 (.var 16)) (.cons (.int .u8 (.lit 1)) .nil))) .nil))))) .nil))) .nil)))) (.cons (.int .i64 (.lit 16)) .nil)))) .nil))) (.cons (.int .i64 (.lit 4)) .nil))))) (.cons (.int .u8 (.ofI (.vop (.sel 1 0) (.cons (.vop .cat (.cons (.vapp 6 (.cons (.vapp 6 (.cons (.tup .nil) (.cons (.int .i64 (wr_ (.iapp 16 (.cons (.tup (.cons (.int .u8 v0_) (.cons (.int .u8 v1_) (.cons (.int .u8 v2_) (.cons (.int .u8 v3_) (.cons (.int .u8 v4_) (.cons (.int .u8 v5_) (.cons (.int .u8 v6_) (.cons (.int .u8 v7_) (.cons (.int .u8 v8_) (.cons (.int .u8 v9_) (.cons (.int .u8 (.var 10)) (.cons (.int .u8 (.var 11)) (.cons (.int .u8 (.var 12)) (.cons (.int .u8 (.var 13)) (.cons (.int .u8 (.var 14)) (.cons (.int .u8 (.var 15)) .nil))))))))))))))))) (.cons (.tup (.cons (.int .u8 (.var 16)) (.cons (.int .u8 (.lit 0)) .nil))) .nil))))) .nil))) (.cons (.int .i64 (wr_ (.iapp 16 (.cons (.tup (.cons (.int .u8 v0_) (.cons (.int .u8 v1_) (.cons (.int .u8 v2_) (.cons (.int .u8 v3_) (.cons (.int .u8 v4_) (.cons (.int .u8 v5_) (.cons (.int .u8 v6_) (.cons (.int .u8 v7_) (.cons (.int .u8 v8_) (.cons (.int .u8 v9_) (.cons (.int .u8 (.var 10)) (.cons (.int .u8 (.var 11)) (.cons (.int .u8 (.var 12)) (.cons (.int .u8 (.var 13)) (.cons (.int .u8 (.var 14)) (.cons (.int .u8 (.var 15)) .nil))))))))))))))))) (.cons (.tup (.cons (.int .u8 (.var 16)) (.cons (.int .u8 (.lit 1)) .nil))) .nil))))) .nil))) (.cons (.vop (.sub 1) (.cons (.tup (.cons (.int .u8 (.lit 0)) (.cons (.int .u8 (.lit 0)) (.cons (.int .u8 (.lit 0)) (.cons (.int .u8 (.lit 0)) (.cons (.int .u8 (.lit 0)) (.cons (.int .u8 (.lit 0)) (.cons (.int .u8 (.lit 0)) (.cons (.int .u8 (.lit 0)) (.cons (.int .u8 (.lit 0)) (.cons (.int .u8 (.lit 0)) (.cons (.int .u8 (.lit 0)) (.cons (.int .u8 (.lit 0)) (.cons (.int .u8 (.lit 0)) (.cons (.int .u8 (.lit 0)) (.cons (.int .u8 (.lit 0)) (.cons (.int .u8 (.lit 0)) .nil))))))))))))))))) (.cons (.int .i64 (.ofI (.vop (.len 1) (.cons (.vapp 6 (.cons (.vapp 6 (.cons (.tup .nil) (.cons (.int .i64 (wr_ (.iapp 16 (.cons (.tup (.cons (.int .u8 v0_) (.cons (.int .u8 v1_) (.cons (.int .u8 v2_) (.cons (.int .u8 v3_) (.cons (.int .u8 v4_) (.cons (.int .u8 v5_) (.cons (.int .u8 v6_) (.cons (.int .u8 v7_) (.cons (.int .u8 v8_) (.cons (.int .u8 v9_) (.cons (.int .u8 (.var 10)) (.cons (.int .u8 (.var 11)) (.cons (.int .u8 (.var 12)) (.cons (.int .u8 (.var 13)) (.cons (.int .u8 (.var 14)) (.cons (.int .u8 (.var 15)) .nil))))))))))))))))) (.cons (.tup (.cons (.int .u8 (.var 16)) (.cons (.int .u8 (.lit 0)) .nil))) .nil))))) .nil))) (.cons (.int .i64 (wr_ (.iapp 16 (.cons (.tup (.cons (.int .u8 v0_) (.cons (.int .u8 v1_) (.cons (.int .u8 v2_) (.cons (.int .u8 v3_) (.cons (.int .u8 v4_) (.cons (.int .u8 v5_) (.cons (.int .u8 v6_) (.cons (.int .u8 v7_) (.cons (.int .u8 v8_) (.cons (.int .u8 v9_) (.cons (.int .u8 (.var 10)) (.cons (.int .u8 (.var 11)) (.cons (.int .u8 (.var 12)) (.cons (.int .u8 (.var 13)) (.cons (.int .u8 (.var 14)) (.cons (.int .u8 (.var 15)) .nil))))))))))))))))) (.cons (.tup (.cons (.int .u8 (.var 16)) (.cons (.int .u8 (.lit 1)) .nil))) .nil))))) .nil))) .nil)))) (.cons (.int .i64 (.lit 16)) .nil)))) .nil))) (.cons (.int .i64 (.lit 5)) .nil))))) (.cons (.int .u8 (.ofI (.vop (.sel 1 0) (.cons (.vop .cat (.cons (.vapp 6 (.cons (.vapp 6 (.cons (.tup .nil) (.cons (.int .i64 (wr_ (.iapp 16 (.cons (.tup (.cons (.int .u8 v0_) (.cons (.int .u8 v1_) (.cons (.int .u8 v2_) (.cons (.int .u8 v3_) (.cons (.int .u8 v4_) (.cons (.int .u8 v5_) (.cons (.int .u8 v6_) (.cons (.int .u8 v7_) (.cons (.int .u8 v8_) (.cons (.int .u8 v9_) (.cons (.int .u8 (.var 10)) (.cons (.int .u8 (.var 11)) (.cons (.int .u8 (.var 12)) (.cons (.int .u8 (.var 13)) (.cons (.int .u8 (.var 14)) (.cons (.int .u8 (.var 15)) .nil))))))))))))))))) (.cons (.tup (.cons (.int .u8 (.var 16)) (.cons (.int .u8 (.lit 0)) .nil))) .nil))))) .nil))) (.cons (.int .i64 (wr_ (.iapp 16 (.cons (.tup (.cons (.int .u8 v0_) (.cons (.int .u8 v1_) (.cons (.int .u8 v2_) (.cons (.int .u8 v3_) (.cons (.int .u8 v4_) (.cons (.int .u8 v5_) (.cons (.int .u8 v6_) (.cons (.int .u8 v7_) (.cons (.int .u8 v8_) (.cons (.int .u8 v9_) (.cons (.int .u8 (.var 10)) (.cons (.int .u8 (.var 11)) (.cons (.int .u8 (.var 12)) (.cons (.int .u8 (.var 13)) (.cons (.int .u8 (.var 14)) (.cons (.int .u8 (.var 15)) .nil))))))))))))))))) (.cons (.tup (.cons (.int .u8 (.var 16)) (.cons (.int .u8 (.lit 1)) .nil))) .nil))))) .nil))) (.cons (.vop (.sub 1) (.cons (.tup (.cons (.int .u8 (.lit 0)) (.cons (.int .u8 (.lit 0)) (.cons (.int .u8 (.lit 0)) (.cons (.int .u8 (.lit 0)) (.cons (.int .u8 (.lit 0)) (.cons (.int .u8 (.lit 0)) (.cons (.int .u8 (.lit 0)) (.cons (.int .u8 (.lit 0)) (.cons (.int .u8 (.lit 0)) (.cons (.int .u8 (.lit 0)) (.cons (.int .u8 (.lit 0)) (.cons (.int .u8 (.lit 0)) (.cons (.int .u8 (.lit 0)) (.cons (.int .u8 (.lit 0)) (.cons (.int .u8 (.lit 0)) (.cons (.int .u8 (.lit 0)) .nil))))))))))))))))) (.cons (.int .i64 (.ofI (.vop (.len 1) (.cons (.vapp 6 (.cons (.vapp 6 (.cons (.tup .nil) (.cons (.int .i64 (wr_ (.iapp 16 (.cons (.tup (.cons (.int .u8 v0_) (.cons (.int .u8 v1_) (.cons (.int .u8 v2_) (.cons (.int .u8 v3_) (.cons (.int .u8 v4_) (.cons (.int .u8 v5_) (.cons (.int .u8 v6_) (.cons (.int .u8 v7_) (.cons (.int .u8 v8_) (.cons (.int .u8 v9_) (.cons (.int .u8 (.var 10)) (.cons (.int .u8 (.var 11)) (.cons (.int .u8 (.var 12)) (.cons (.int .u8 (.var 13)) (.cons (.int .u8 (.var 14)) (.cons (.int .u8 (.var 15)) .nil))))))))))))))))) (.cons (.tup (.cons (.int .u8 (.var 16)) (.cons (.int .u8 (.lit 0)) .nil))) .nil))))) .nil))) (.cons (.int .i64 (wr_ (.iapp 16 (.cons (.tup (.cons (.int .u8 v0_) (.cons (.int .u8 v1_) (.cons (.int .u8 v2_) (.cons (.int .u8 v3_) (.cons (.int .u8 v4_) (.cons (.int .u8 v5_) (.cons (.int .u8 v6_) (.cons (.int .u8 v7_) (.cons (.int .u8 v8_) (.cons (.int .u8 v9_) (.cons (.int .u8 (.var 10)) (.cons (.int .u8 (.var 11)) (.cons (.int .u8 (.var 12)) (.cons (.int .u8 (.var 13)) (.cons (.int .u8 (.var 14)) (.cons (.int .u8 (.var 15)) .nil))))))))))))))))) (.cons (.tup (.cons (.int .u8 (.var 16)) (.cons (.int .u8 (.lit 1)) .nil))) .nil))))) .nil))) .nil)))) (.cons (.int .i64 (.lit 16)) .nil)))) .nil))) (.cons (.int .i64 (.lit 6)) .nil))))) (.cons (.int .u8 (.ofI (.vop (.sel 1 0) (.cons (.vop .cat (.cons (.vapp 6 (.cons (.vapp 6 (.cons (.tup .nil) (.cons (.int .i64 (wr_ (.iapp 16 (.cons (.tup (.cons (.int .u8 v0_) (.cons (.int .u8 v1_) (.cons (.int .u8 v2_) (.cons (.int .u8 v3_) (.cons (.int .u8 v4_) (.cons (.int .u8 v5_) (.cons (.int .u8 v6_) (.cons (.int .u8 v7_) (.cons (.int .u8 v8_) (.cons (.int .u8 v9_) (.cons (.int .u8 (.var 10)) (.cons (.int .u8 (.var 11)) (.cons (.int .u8 (.var 12)) (.cons (.int .u8 (.var 13)) (.cons (.int .u8 (.var 14)) (.cons (.int .u8 (.var 15)) .nil))))))))))))))))) (.cons (.tup (.cons (.int .u8 (.var 16)) (.cons (.int .u8 (.lit 0)) .nil))) .nil))))) .nil))) (.cons (.int .i64 (wr_ (.iapp 16 (.cons (.tup (.cons (.int .u8 v0_) (.cons (.int .u8 v1_) (.cons (.int .u8 v2_) (.cons (.int .u8 v3_) (.cons (.int .u8 v4_) (.cons (.int .u8 v5_) (.cons (.int .u8 v6_) (.cons (.int .u8 v7_) (.cons (.int .u8 v8_) (.cons (.int .u8 v9_) (.cons (.int .u8 (.var 10)) (.cons (.int .u8 (.var 11)) (.cons (.int .u8 (.var 12)) (.cons (.int .u8 (.var 13)) (.cons (.int .u8 (.var 14)) (.cons (.int .u8 (.var 15)) .nil))))))))))))))))) (.cons (.tup (.cons (.int .u8 (.var 16)) (.cons (.int .u8 (.lit 1)) .nil))) .nil))))) .nil))) (.cons (.vop (.sub 1) (.cons (.tup (.cons (.int .u8 (.lit 0)) (.cons (.int .u8 (.lit 0)) (.cons (.int .u8 (.lit 0)) (.cons (.int .u8 (.lit 0)) (.cons (.int .u8 (.lit 0)) (.cons (.int .u8 (.lit 0)) (.cons (.int .u8 (.lit 0)) (.cons (.int .u8 (.lit 0)) (.cons (.int .u8 (.lit 0)) (.cons (.int .u8 (.lit 0)) (.cons (.int .u8 (.lit 0)) (.cons (.int .u8 (.lit 0)) (.cons (.int .u8 (.lit 0)) (.cons (.int .u8 (.lit 0)) (.cons (.int .u8 (.lit 0)) (.cons (.int .u8 (.lit 0)) .nil))))))))))))))))) (.cons (.int .i64 (.ofI (.vop (.len 1) (.cons (.vapp 6 (.cons (.vapp 6 (.cons (.tup .nil) (.cons (.int .i64 (wr_ (.iapp 16 (.cons (.tup (.cons (.int .u8 v0_) (.cons (.int .u8 v1_) (.cons (.int .u8 v2_) (.cons (.int .u8 v3_) (.cons (.int .u8 v4_) (.cons (.int .u8 v5_) (.cons (.int .u8 v6_) (.cons (.int .u8 v7_) (.cons (.int .u8 v8_) (.cons (.int .u8 v9_) (.cons (.int .u8 (.var 10)) (.cons (.int .u8 (.var 11)) (.cons (.int .u8 (.var 12)) (.cons (.int .u8 (.var 13)) (.cons (.int .u8 (.var 14)) (.cons (.int .u8 (.var 15)) .nil))))))))))))))))) (.cons (.tup (.cons (.int .u8 (.var 16)) (.cons (.int .u8 (.lit 0)) .nil))) .nil))))) .nil))) (.cons (.int .i64 (wr_ (.iapp 16 (.cons (.tup (.cons (.int .u8 v0_) (.cons (.int .u8 v1_) (.cons (.int .u8 v2_) (.cons (.int .u8 v3_) (.cons (.int .u8 v4_) (.cons (.int .u8 v5_) (.cons (.int .u8 v6_) (.cons (.int .u8 v7_) (.cons (.int .u8 v8_) (.cons (.int .u8 v9_) (.cons (.int .u8 (.var 10)) (.cons (.int .u8 (.var 11)) (.cons (.int .u8 (.var 12)) (.cons (.int .u8 (.var 13)) (.cons (.int .u8 (.var 14)) (.cons (.int .u8 (.var 15)) .nil))))))))))))))))) (.cons (.tup (.cons (.int .u8 (.var 16)) (.cons (.int .u8 (.lit 1)) .nil))) .nil))))) .nil))) .nil)))) (.cons (.int .i64 (.lit 16)) .nil)))) .nil))) (.cons (.int .i64 (.lit 7)) .nil))))) (.cons (.int .u8 (.ofI (.vop (.sel 1 0) (.cons (.vop .cat (.cons (.vapp 6 (.cons (.vapp 6 (.cons (.tup .nil) (.cons (.int .i64 (wr_ (.iapp 16 (.cons (.tup (.cons (.int .u8 v0_) (.cons (.int .u8 v1_) (.cons (.int .u8 v2_) (.cons (.int .u8 v3_) (.cons (.int .u8 v4_) (.cons (.int .u8 v5_) (.cons (.int .u8 v6_) (.cons (.int .u8 v7_) (.cons (.int .u8 v8_) (.cons (.int .u8 v9_) (.cons (.int .u8 (.var 10)) (.cons (.int .u8 (.var 11)) (.cons (.int .u8 (.var 12)) (.cons (.int .u8 (.var 13)) (.cons (.int .u8 (.var 14)) (.cons (.int .u8 (.var 15)) .nil))))))))))))))))) (.cons (.tup (.cons (.int .u8 (.var 16)) (.cons (.int .u8 (.lit 0)) .nil))) .nil))))) .nil))) (.cons (.int .i64 (wr_ (.iapp 16 (.cons (.tup (.cons (.int .u8 v0_) (.cons (.int .u8 v1_) (.cons (.int .u8 v2_) (.cons (.int .u8 v3_) (.cons (.int .u8 v4_) (.cons (.int .u8 v5_) (.cons (.int .u8 v6_) (.cons (.int .u8 v7_) (.cons (.int .u8 v8_) (.cons (.int .u8 v9_) (.cons (.int .u8 (.var 10)) (.cons (.int .u8 (.var 11)) (.cons (.int .u8 (.var 12)) (.cons (.int .u8 (.var 13)) (.cons (.int .u8 (.var 14)) (.cons (.int .u8 (.var 15)) .nil))))))))))))))))) (.cons (.tup (.cons (.int .u8 (.var 16)) (.cons (.int .u8 (.lit 1)) .nil))) .nil))))) .nil))) (.cons (.vop (.sub 1) (.cons (.tup (.cons (.int .u8 (.lit 0)) (.cons (.int .u8 (.lit 0)) (.cons (.int .u8 (.lit 0)) (.cons (.int .u8 (.lit 0)) (.cons (.int .u8 (.lit 0)) (.cons (.int .u8 (.lit 0)) (.cons (.int .u8 (.lit 0)) (.cons (.int .u8 (.lit 0)) (.cons (.int .u8 (.lit 0)) (.cons (.int .u8 (.lit 0)) (.cons (.int .u8 (.lit 0)) (.cons (.int .u8 (.lit 0)) (.cons (.int .u8 (.lit 0)) (.cons (.int .u8 (.lit 0)) (.cons (.int .u8 (.lit 0)) (.cons (.int .u8 (.lit 0)) .nil))))))))))))))))) (.cons (.int .i64 (.ofI (.vop (.len 1) (.cons (.vapp 6 (.cons (.vapp 6 (.cons (.tup .nil) (.cons (.int .i64 (wr_ (.iapp 16 (.cons (.tup (.cons (.int .u8 v0_) (.cons (.int .u8 v1_) (.cons (.int .u8 v2_) (.cons (.int .u8 v3_) (.cons (.int .u8 v4_) (.cons (.int .u8 v5_) (.cons (.int .u8 v6_) (.cons (.int .u8 v7_) (.cons (.int .u8 v8_) (.cons (.int .u8 v9_) (.cons (.int .u8 (.var 10)) (.cons (.int .u8 (.var 11)) (.cons (.int .u8 (.var 12)) (.cons (.int .u8 (.var 13)) (.cons (.int .u8 (.var 14)) (.cons (.int .u8 (.var 15)) .nil))))))))))))))))) (.cons (.tup (.cons (.int .u8 (.var 16)) (.cons (.int .u8 (.lit 0)) .nil))) .nil))))) .nil))) (.cons (.int .i64 (wr_ (.iapp 16 (.cons (.tup (.cons (.int .u8 v0_) (.cons (.int .u8 v1_) (.cons (.int .u8 v2_) (.cons (.int .u8 v3_) (.cons (.int .u8 v4_) (.cons (.int .u8 v5_) (.cons (.int .u8 v6_) (.cons (.int .u8 v7_) (.cons (.int .u8 v8_) (.cons (.int .u8 v9_) (.cons (.int .u8 (.var 10)) (.cons (.int .u8 (.var 11)) (.cons (.int .u8 (.var 12)) (.cons (.int .u8 (.var 13)) (.cons (.int .u8 (.var 14)) (.cons (.int .u8 (.var 15)) .nil))))))))))))))))) (.cons (.tup (.cons (.int .u8 (.var 16)) (.cons (.int .u8 (.lit 1)) .nil))) .nil))))) .nil))) .nil)))) (.cons (.int .i64 (.lit 16)) .nil)))) .nil))) (.cons (.int .i64 (.lit 8)) .nil))))) (.cons (.int .u8 (.ofI (.vop (.sel 1 0) (.cons (.vop .cat (.cons (.vapp 6 (.cons (.vapp 6 (.cons (.tup .nil) (.cons (.int .i64 (wr_ (.iapp 16 (.cons (.tup (.cons (.int .u8 v0_) (.cons (.int .u8 v1_) (.cons (.int .u8 v2_) (.cons (.int .u8 v3_) (.cons (.int .u8 v4_) (.cons (.int .u8 v5_) (.cons (.int .u8 v6_) (.cons (.int .u8 v7_) (.cons (.int .u8 v8_) (.cons (.int .u8 v9_) (.cons (.int .u8 (.var 10)) (.cons (.int .u8 (.var 11)) (.cons (.int .u8 (.var 12)) (.cons (.int .u8 (.var 13)) (.cons (.int .u8 (.var 14)) (.cons (.int .u8 (.var 15)) .nil))))))))))))))))) (.cons (.tup (.cons (.int .u8 (.var 16)) (.cons (.int .u8 (.lit 0)) .nil))) .nil))))) .nil))) (.cons (.int .i64 (wr_ (.iapp 16 (.cons (.tup (.cons (.int .u8 v0_) (.cons (.int .u8 v1_) (.cons (.int .u8 v2_) (.cons (.int .u8 v3_) (.cons (.int .u8 v4_) (.cons (.int .u8 v5_) (.cons (.int .u8 v6_) (.cons (.int .u8 v7_) (.cons (.int .u8 v8_) (.cons (.int .u8 v9_) (.cons (.int .u8 (.var 10)) (.cons (.int .u8 (.var 11)) (.cons (.int .u8 (.var 12)) (.cons (.int .u8 (.var 13)) (.cons (.int .u8 (.var 14)) (.cons (.int .u8 (.var 15)) .nil))))))))))))))))) (.cons (.tup (.cons (.int .u8 (.var 16)) (.cons (.int .u8 (.lit 1)) .nil))) .nil))))) .nil))) (.cons (.vop (.sub 1) (.cons (.tup (.cons (.int .u8 (.lit 0)) (.cons (.int .u8 (.lit 0)) (.cons (.int .u8 (.lit 0)) (.cons (.int .u8 (.lit 0)) (.cons (.int .u8 (.lit 0)) (.cons (.int .u8 (.lit 0)) (.cons (.int .u8 (.lit 0)) (.cons (.int .u8 (.lit 0)) (.cons (.int .u8 (.lit 0)) (.cons (.int .u8 (.lit 0)) (.cons (.int .u8 (.lit 0)) (.cons (.int .u8 (.lit 0)) (.cons (.int .u8 (.lit 0)) (.cons (.int .u8 (.lit 0)) (.cons (.int .u8 (.lit 0)) (.cons (.int .u8 (.lit 0)) .nil))))))))))))))))) (.cons (.int .i64 (.ofI (.vop (.len 1) (.cons (.vapp 6 (.cons (.vapp 6 (.cons (.tup .nil) (.cons (.int .i64 (wr_ (.iapp 16 (.cons (.tup (.cons (.int .u8 v0_) (.cons (.int .u8 v1_) (.cons (.int .u8 v2_) (.cons (.int .u8 v3_) (.cons (.int .u8 v4_) (.cons (.int .u8 v5_) (.cons (.int .u8 v6_) (.cons (.int .u8 v7_) (.cons (.int .u8 v8_) (.cons (.int .u8 v9_) (.cons (.int .u8 (.var 10)) (.cons (.int .u8 (.var 11)) (.cons (.int .u8 (.var 12)) (.cons (.int .u8 (.var 13)) (.cons (.int .u8 (.var 14)) (.cons (.int .u8 (.var 15)) .nil))))))))))))))))) (.cons (.tup (.cons (.int .u8 (.var 16)) (.cons (.int .u8 (.lit 0)) .nil))) .nil))))) .nil))) (.cons (.int .i64 (wr_ (.iapp 16 (.cons (.tup (.cons (.int .u8 v0_) (.cons (.int .u8 v1_) (.cons (.int .u8 v2_) (.cons (.int .u8 v3_) (.cons (.int .u8 v4_) (.cons (.int .u8 v5_) (.cons (.int .u8 v6_) (.cons (.int .u8 v7_) (.cons (.int .u8 v8_) (.cons (.int .u8 v9_) (.cons (.int .u8 (.var 10)) (.cons (.int .u8 (.var 11)) (.cons (.int .u8 (.var 12)) (.cons (.int .u8 (.var 13)) (.cons (.int .u8 (.var 14)) (.cons (.int .u8 (.var 15)) .nil))))))))))))))))) (.cons (.tup (.cons (.int .u8 (.var 16)) (.cons (.int .u8 (.lit 1)) .nil))) .nil))))) .nil))) .nil)))) (.cons (.int .i64 (.lit 16)) .nil)))) .nil))) (.cons (.int .i64 (.lit 9)) .nil))))) (.cons (.int .u8 (.ofI (.vop (.sel 1 0) (.cons (.vop .cat (.cons (.vapp 6 (.cons (.vapp 6 (.cons (.tup .nil) (.cons (.int .i64 (wr_ (.iapp 16 (.cons (.tup (.cons (.int .u8 v0_) (.cons (.int .u8 v1_) (.cons (.int .u8 v2_) (.cons (.int .u8 v3_) (.cons (.int .u8 v4_) (.cons (.int .u8 v5_) (.cons (.int .u8 v6_) (.cons (.int .u8 v7_) (.cons (.int .u8 v8_) (.cons (.int .u8 v9_) (.cons (.int .u8 (.var 10)) (.cons (.int .u8 (.var 11)) (.cons (.int .u8 (.var 12)) (.cons (.int .u8 (.var 13)) (.cons (.int .u8 (.var 14)) (.cons (.int .u8 (.var 15)) .nil))))))))))))))))) (.cons (.tup (.cons (.int .u8 (.var 16)) (.cons (.int .u8 (.lit 0)) .nil))) .nil))))) .nil))) (.cons (.int .i64 (wr_ (.iapp 16 (.cons (.tup (.cons (.int .u8 v0_) (.cons (.int .u8 v1_) (.cons (.int .u8 v2_) (.cons (.int .u8 v3_) (.cons (.int .u8 v4_) (.cons (.int .u8 v5_) (.cons (.int .u8 v6_) (.cons (.int .u8 v7_) (.cons (.int .u8 v8_) (.cons (.int .u8 v9_) (.cons (.int .u8 (.var 10)) (.cons (.int .u8 (.var 11)) (.cons (.int .u8 (.var 12)) (.cons (.int .u8 (.var 13)) (.cons (.int .u8 (.var 14)) (.cons (.int .u8 (.var 15)) .nil))))))))))))))))) (.cons (.tup (.cons (.int .u8 (.var 16)) (.cons (.int .u8 (.lit 1)) .nil))) .nil))))) .nil))) (.cons (.vop (.sub 1) (.cons (.tup (.cons (.int .u8 (.lit 0)) (.cons (.int .u8 (.lit 0)) (.cons (.int .u8 (.lit 0)) (.cons (.int .u8 (.lit 0)) (.cons (.int .u8 (.lit 0)) (.cons (.int .u8 (.lit 0)) (.cons (.int .u8 (.lit 0)) (.cons (.int .u8 (.lit 0)) (.cons (.int .u8 (.lit 0)) (.cons (.int .u8 (.lit 0)) (.cons (.int .u8 (.lit 0)) (.cons (.int .u8 (.lit 0)) (.cons (.int .u8 (.lit 0)) (.cons (.int .u8 (.lit 0)) (.cons (.int .u8 (.lit 0)) (.cons (.int .u8 (.lit 0)) .nil))))))))))))))))) (.cons (.int .i64 (.ofI (.vop (.len 1) (.cons (.vapp 6 (.cons (.vapp 6 (.cons (.tup .nil) (.cons (.int .i64 (wr_ (.iapp 16 (.cons (.tup (.cons (.int .u8 v0_) (.cons (.int .u8 v1_) (.cons (.int .u8 v2_) (.cons (.int .u8 v3_) (.cons (.int .u8 v4_) (.cons (.int .u8 v5_) (.cons (.int .u8 v6_) (.cons (.int .u8 v7_) (.cons (.int .u8 v8_) (.cons (.int .u8 v9_) (.cons (.int .u8 (.var 10)) (.cons (.int .u8 (.var 11)) (.cons (.int .u8 (.var 12)) (.cons (.int .u8 (.var 13)) (.cons (.int .u8 (.var 14)) (.cons (.int .u8 (.var 15)) .nil))))))))))))))))) (.cons (.tup (.cons (.int .u8 (.var 16)) (.cons (.int .u8 (.lit 0)) .nil))) .nil))))) .nil))) (.cons (.int .i64 (wr_ (.iapp 16 (.cons (.tup (.cons (.int .u8 v0_) (.cons (.int .u8 v1_) (.cons (.int .u8 v2_) (.cons (.int .u8 v3_) (.cons (.int .u8 v4_) (.cons (.int .u8 v5_) (.cons (.int .u8 v6_) (.cons (.int .u8 v7_) (.cons (.int .u8 v8_) (.cons (.int .u8 v9_) (.cons (.int .u8 (.var 10)) (.cons (.int .u8 (.var 11)) (.cons (.int .u8 (.var 12)) (.cons (.int .u8 (.var 13)) (.cons (.int .u8 (.var 14)) (.cons (.int .u8 (.var 15)) .nil))))))))))))))))) (.cons (.tup (.cons (.int .u8 (.var 16)) (.cons (.int .u8 (.lit 1)) .nil))) .nil))))) .nil))) .nil)))) (.cons (.int .i64 (.lit 16)) .nil)))) .nil))) (.cons (.int .i64 (.lit 10)) .nil))))) (.cons (.int .u8 (.ofI (.vop (.sel 1 0) (.cons (.vop .cat (.cons (.vapp 6 (.cons (.vapp 6 (.cons (.tup .nil) (.cons (.int .i64 (wr_ (.iapp 16 (.cons (.tup (.cons (.int .u8 v0_) (.cons (.int .u8 v1_) (.cons (.int .u8 v2_) (.cons (.int .u8 v3_) (.cons (.int .u8 v4_) (.cons (.int .u8 v5_) (.cons (.int .u8 v6_) (.cons (.int .u8 v7_) (.cons (.int .u8 v8_) (.cons (.int .u8 v9_) (.cons (.int .u8 (.var 10)) (.cons (.int .u8 (.var 11)) (.cons (.int .u8 (.var 12)) (.cons (.int .u8 (.var 13)) (.cons (.int .u8 (.var 14)) (.cons (.int .u8 (.var 15)) .nil))))))))))))))))) (.cons (.tup (.cons (.int .u8 (.var 16)) (.cons (.int .u8 (.lit 0)) .nil))) .nil))))) .nil))) (.cons (.int .i64 (wr_ (.iapp 16 (.cons (.tup (.cons (.int .u8 v0_) (.cons (.int .u8 v1_) (.cons (.int .u8 v2_) (.cons (.int .u8 v3_) (.cons (.int .u8 v4_) (.cons (.int .u8 v5_) (.cons (.int .u8 v6_) (.cons (.int .u8 v7_) (.cons (.int .u8 v8_) (.cons (.int .u8 v9_) (.cons (.int .u8 (.var 10)) (.cons (.int .u8 (.var 11)) (.cons (.int .u8 (.var 12)) (.cons (.int .u8 (.var 13)) (.cons (.int .u8 (.var 14)) (.cons (.int .u8 (.var 15)) .nil))))))))))))))))) (.cons (.tup (.cons (.int .u8 (.var 16)) (.cons (.int .u8 (.lit 1)) .nil))) .nil))))) .nil))) (.cons (.vop (.sub 1) (.cons (.tup (.cons (.int .u8 (.lit 0)) (.cons (.int .u8 (.lit 0)) (.cons (.int .u8 (.lit 0)) (.cons (.int .u8 (.lit 0)) (.cons (.int .u8 (.lit 0)) (.cons (.int .u8 (.lit 0)) (.cons (.int .u8 (.lit 0)) (.cons (.int .u8 (.lit 0)) (.cons (.int .u8 (.lit 0)) (.cons (.int .u8 (.lit 0)) (.cons (.int .u8 (.lit 0)) (.cons (.int .u8 (.lit 0)) (.cons (.int .u8 (.lit 0)) (.cons (.int .u8 (.lit 0)) (.cons (.int .u8 (.lit 0)) (.cons (.int .u8 (.lit 0)) .nil))))))))))))))))) (.cons (.int .i64 (.ofI (.vop (.len 1) (.cons (.vapp 6 (.cons (.vapp 6 (.cons (.tup .nil) (.cons (.int .i64 (wr_ (.iapp 16 (.cons (.tup (.cons (.int .u8 v0_) (.cons (.int .u8 v1_) (.cons (.int .u8 v2_) (.cons (.int .u8 v3_) (.cons (.int .u8 v4_) (.cons (.int .u8 v5_) (.cons (.int .u8 v6_) (.cons (.int .u8 v7_) (.cons (.int .u8 v8_) (.cons (.int .u8 v9_) (.cons (.int .u8 (.var 10)) (.cons (.int .u8 (.var 11)) (.cons (.int .u8 (.var 12)) (.cons (.int .u8 (.var 13)) (.cons (.int .u8 (.var 14)) (.cons (.int .u8 (.var 15)) .nil))))))))))))))))) (.cons (.tup (.cons (.int .u8 (.var 16)) (.cons (.int .u8 (.lit 0)) .nil))) .nil))))) .nil))) (.cons (.int .i64 (wr_ (.iapp 16 (.cons (.tup (.cons (.int .u8 v0_) (.cons (.int .u8 v1_) (.cons (.int .u8 v2_) (.cons (.int .u8 v3_) (.cons (.int .u8 v4_) (.cons (.int .u8 v5_) (.cons (.int .u8 v6_) (.cons (.int .u8 v7_) (.cons (.int .u8 v8_) (.cons (.int .u8 v9_) (.cons (.int .u8 (.var 10)) (.cons (.int .u8 (.var 11)) (.cons (.int .u8 (.var 12)) (.cons (.int .u8 (.var 13)) (.cons (.int .u8 (.var 14)) (.cons (.int .u8 (.var 15)) .nil))))))))))))))))) (.cons (.tup (.cons (.int .u8 (.var 16)) (.cons (.int .u8 (.lit 1)) .nil))) .nil))))) .nil))) .nil)))) (.cons (.int .i64 (.lit 16)) .nil)))) .nil))) (.cons (.int .i64 (.lit 11)) .nil))))) (.cons (.int .u8 (.ofI (.vop (.sel 1 0) (.cons (.vop .cat (.cons (.vapp 6 (.cons (.vapp 6 (.cons (.tup .nil) (.cons (.int .i64 (wr_ (.iapp 16 (.cons (.tup (.cons (.int .u8 v0_) (.cons (.int .u8 v1_) (.cons (.int .u8 v2_) (.cons (.int .u8 v3_) (.cons (.int .u8 v4_) (.cons (.int .u8 v5_) (.cons (.int .u8 v6_) (.cons (.int .u8 v7_) (.cons (.int .u8 v8_) (.cons (.int .u8 v9_) (.cons (.int .u8 (.var 10)) (.cons (.int .u8 (.var 11)) (.cons (.int .u8 (.var 12)) (.cons (.int .u8 (.var 13)) (.cons (.int .u8 (.var 14)) (.cons (.int .u8 (.var 15)) .nil))))))))))))))))) (.cons (.tup (.cons (.int .u8 (.var 16)) (.cons (.int .u8 (.lit 0)) .nil))) .nil))))) .nil))) (.cons (.int .i64 (wr_ (.iapp 16 (.cons (.tup (.cons (.int .u8 v0_) (.cons (.int .u8 v1_) (.cons (.int .u8 v2_) (.cons (.int .u8 v3_) (.cons (.int .u8 v4_) (.cons (.int .u8 v5_) (.cons (.int .u8 v6_) (.cons (.int .u8 v7_) (.cons (.int .u8 v8_) (.cons (.int .u8 v9_) (.cons (.int .u8 (.var 10)) (.cons (.int .u8 (.var 11)) (.cons (.int .u8 (.var 12)) (.cons (.int .u8 (.var 13)) (.cons (.int .u8 (.var 14)) (.cons (.int .u8 (.var 15)) .nil))))))))))))))))) (.cons (.tup (.cons (.int .u8 (.var 16)) (.cons (.int .u8 (.lit 1)) .nil))) .nil))))) .nil))) (.cons (.vop (.sub 1) (.cons (.tup (.cons (.int .u8 (.lit 0)) (.cons (.int .u8 (.lit 0)) (.cons (.int .u8 (.lit 0)) (.cons (.int .u8 (.lit 0)) (.cons (.int .u8 (.lit 0)) (.cons (.int .u8 (.lit 0)) (.cons (.int .u8 (.lit 0)) (.cons (.int .u8 (.lit 0)) (.cons (.int .u8 (.lit 0)) (.cons (.int .u8 (.lit 0)) (.cons (.int .u8 (.lit 0)) (.cons (.int .u8 (.lit 0)) (.cons (.int .u8 (.lit 0)) (.cons (.int .u8 (.lit 0)) (.cons (.int .u8 (.lit 0)) (.cons (.int .u8 (.lit 0)) .nil))))))))))))))))) (.cons (.int .i64 (.ofI (.vop (.len 1) (.cons (.vapp 6 (.cons (.vapp 6 (.cons (.tup .nil) (.cons (.int .i64 (wr_ (.iapp 16 (.cons (.tup (.cons (.int .u8 v0_) (.cons (.int .u8 v1_) (.cons (.int .u8 v2_) (.cons (.int .u8 v3_) (.cons (.int .u8 v4_) (.cons (.int .u8 v5_) (.cons (.int .u8 v6_) (.cons (.int .u8 v7_) (.cons (.int .u8 v8_) (.cons (.int .u8 v9_) (.cons (.int .u8 (.var 10)) (.cons (.int .u8 (.var 11)) (.cons (.int .u8 (.var 12)) (.cons (.int .u8 (.var 13)) (.cons (.int .u8 (.var 14)) (.cons (.int .u8 (.var 15)) .nil))))))))))))))))) (.cons (.tup (.cons (.int .u8 (.var 16)) (.cons (.int .u8 (.lit 0)) .nil))) .nil))))) .nil))) (.cons (.int .i64 (wr_ (.iapp 16 (.cons (.tup (.cons (.int .u8 v0_) (.cons (.int .u8 v1_) (.cons (.int .u8 v2_) (.cons (.int .u8 v3_) (.cons (.int .u8 v4_) (.cons (.int .u8 v5_) (.cons (.int .u8 v6_) (.cons (.int .u8 v7_) (.cons (.int .u8 v8_) (.cons (.int .u8 v9_) (.cons (.int .u8 (.var 10)) (.cons (.int .u8 (.var 11)) (.cons (.int .u8 (.var 12)) (.cons (.int .u8 (.var 13)) (.cons (.int .u8 (.var 14)) (.cons (.int .u8 (.var 15)) .nil))))))))))))))))) (.cons (.tup (.cons (.int .u8 (.var 16)) (.cons (.int .u8 (.lit 1)) .nil))) .nil))))) .nil))) .nil)))) (.cons (.int .i64 (.lit 16)) .nil)))) .nil))) (.cons (.int .i64 (.lit 12)) .nil))))) (.cons (.int .u8 (.ofI (.vop (.sel 1 0) (.cons (.vop .cat (.cons (.vapp 6 (.cons (.vapp 6 (.cons (.tup .nil) (.cons (.int .i64 (wr_ (.iapp 16 (.cons (.tup (.cons (.int .u8 v0_) (.cons (.int .u8 v1_) (.cons (.int .u8 v2_) (.cons (.int .u8 v3_) (.cons (.int .u8 v4_) (.cons (.int .u8 v5_) (.cons (.int .u8 v6_) (.cons (.int .u8 v7_) (.cons (.int .u8 v8_) (.cons (.int .u8 v9_) (.cons (.int .u8 (.var 10)) (.cons (.int .u8 (.var 11)) (.cons (.int .u8 (.var 12)) (.cons (.int .u8 (.var 13)) (.cons (.int .u8 (.var 14)) (.cons (.int .u8 (.var 15)) .nil))))))))))))))))) (.cons (.tup (.cons (.int .u8 (.var 16)) (.cons (.int .u8 (.lit 0)) .nil))) .nil))))) .nil))) (.cons (.int .i64 (wr_ (.iapp 16 (.cons (.tup (.cons (.int .u8 v0_) (.cons (.int .u8 v1_) (.cons (.int .u8 v2_) (.cons (.int .u8 v3_) (.cons (.int .u8 v4_) (.cons (.int .u8 v5_) (.cons (.int .u8 v6_) (.cons (.int .u8 v7_) (.cons (.int .u8 v8_) (.cons (.int .u8 v9_) (.cons (.int .u8 (.var 10)) (.cons (.int .u8 (.var 11)) (.cons (.int .u8 (.var 12)) (.cons (.int .u8 (.var 13)) (.cons (.int .u8 (.var 14)) (.cons (.int .u8 (.var 15)) .nil))))))))))))))))) (.cons (.tup (.cons (.int .u8 (.var 16)) (.cons (.int .u8 (.lit 1)) .nil))) .nil))))) .nil))) (.cons (.vop (.sub 1) (.cons (.tup (.cons (.int .u8 (.lit 0)) (.cons (.int .u8 (.lit 0)) (.cons (.int .u8 (.lit 0)) (.cons (.int .u8 (.lit 0)) (.cons (.int .u8 (.lit 0)) (.cons (.int .u8 (.lit 0)) (.cons (.int .u8 (.lit 0)) (.cons (.int .u8 (.lit 0)) (.cons (.int .u8 (.lit 0)) (.cons (.int .u8 (.lit 0)) (.cons (.int .u8 (.lit 0)) (.cons (.int .u8 (.lit 0)) (.cons (.int .u8 (.lit 0)) (.cons (.int .u8 (.lit 0)) (.cons (.int .u8 (.lit 0)) (.cons (.int .u8 (.lit 0)) .nil))))))))))))))))) (.cons (.int .i64 (.ofI (.vop (.len 1) (.cons (.vapp 6 (.cons (.vapp 6 (.cons (.tup .nil) (.cons (.int .i64 (wr_ (.iapp 16 (.cons (.tup (.cons (.int .u8 v0_) (.cons (.int .u8 v1_) (.cons (.int .u8 v2_) (.cons (.int .u8 v3_) (.cons (.int .u8 v4_) (.cons (.int .u8 v5_) (.cons (.int .u8 v6_) (.cons (.int .u8 v7_) (.cons (.int .u8 v8_) (.cons (.int .u8 v9_) (.cons (.int .u8 (.var 10)) (.cons (.int .u8 (.var 11)) (.cons (.int .u8 (.var 12)) (.cons (.int .u8 (.var 13)) (.cons (.int .u8 (.var 14)) (.cons (.int .u8 (.var 15)) .nil))))))))))))))))) (.cons (.tup (.cons (.int .u8 (.var 16)) (.cons (.int .u8 (.lit 0)) .nil))) .nil))))) .nil))) (.cons (.int .i64 (wr_ (.iapp 16 (.cons (.tup (.cons (.int .u8 v0_) (.cons (.int .u8 v1_) (.cons (.int .u8 v2_) (.cons (.int .u8 v3_) (.cons (.int .u8 v4_) (.cons (.int .u8 v5_) (.cons (.int .u8 v6_) (.cons (.int .u8 v7_) (.cons (.int .u8 v8_) (.cons (.int .u8 v9_) (.cons (.int .u8 (.var 10)) (.cons (.int .u8 (.var 11)) (.cons (.int .u8 (.var 12)) (.cons (.int .u8 (.var 13)) (.cons (.int .u8 (.var 14)) (.cons (.int .u8 (.var 15)) .nil))))))))))))))))) (.cons (.tup (.cons (.int .u8 (.var 16)) (.cons (.int .u8 (.lit 1)) .nil))) .nil))))) .nil))) .nil)))) (.cons (.int .i64 (.lit 16)) .nil)))) .nil))) (.cons (.int .i64 (.lit 13)) .nil))))) (.cons (.int .u8 (.ofI (.vop (.sel 1 0) (.cons (.vop .cat (.cons (.vapp 6 (.cons (.vapp 6 (.cons (.tup .nil) (.cons (.int .i64 (wr_ (.iapp 16 (.cons (.tup (.cons (.int .u8 v0_) (.cons (.int .u8 v1_) (.cons (.int .u8 v2_) (.cons (.int .u8 v3_) (.cons (.int .u8 v4_) (.cons (.int .u8 v5_) (.cons (.int .u8 v6_) (.cons (.int .u8 v7_) (.cons (.int .u8 v8_) (.cons (.int .u8 v9_) (.cons (.int .u8 (.var 10)) (.cons (.int .u8 (.var 11)) (.cons (.int .u8 (.var 12)) (.cons (.int .u8 (.var 13)) (.cons (.int .u8 (.var 14)) (.cons (.int .u8 (.var 15)) .nil))))))))))))))))) (.cons (.tup (.cons (.int .u8 (.var 16)) (.cons (.int .u8 (.lit 0)) .nil))) .nil))))) .nil))) (.cons (.int .i64 (wr_ (.iapp 16 (.cons (.tup (.cons (.int .u8 v0_) (.cons (.int .u8 v1_) (.cons (.int .u8 v2_) (.cons (.int .u8 v3_) (.cons (.int .u8 v4_) (.cons (.int .u8 v5_) (.cons (.int .u8 v6_) (.cons (.int .u8 v7_) (.cons (.int .u8 v8_) (.cons (.int .u8 v9_) (.cons (.int .u8 (.var 10)) (.cons (.int .u8 (.var 11)) (.cons (.int .u8 (.var 12)) (.cons (.int .u8 (.var 13)) (.cons (.int .u8 (.var 14)) (.cons (.int .u8 (.var 15)) .nil))))))))))))))))) (.cons (.tup (.cons (.int .u8 (.var 16)) (.cons (.int .u8 (.lit 1)) .nil))) .nil))))) .nil))) (.cons (.vop (.sub 1) (.cons (.tup (.cons (.int .u8 (.lit 0)) (.cons (.int .u8 (.lit 0)) (.cons (.int .u8 (.lit 0)) (.cons (.int .u8 (.lit 0)) (.cons (.int .u8 (.lit 0)) (.cons (.int .u8 (.lit 0)) (.cons (.int .u8 (.lit 0)) (.cons (.int .u8 (.lit 0)) (.cons (.int .u8 (.lit 0)) (.cons (.int .u8 (.lit 0)) (.cons (.int .u8 (.lit 0)) (.cons (.int .u8 (.lit 0)) (.cons (.int .u8 (.lit 0)) (.cons (.int .u8 (.lit 0)) (.cons (.int .u8 (.lit 0)) (.cons (.int .u8 (.lit 0)) .nil))))))))))))))))) (.cons (.int .i64 (.ofI (.vop (.len 1) (.cons (.vapp 6 (.cons (.vapp 6 (.cons (.tup .nil) (.cons (.int .i64 (wr_ (.iapp 16 (.cons (.tup (.cons (.int .u8 v0_) (.cons (.int .u8 v1_) (.cons (.int .u8 v2_) (.cons (.int .u8 v3_) (.cons (.int .u8 v4_) (.cons (.int .u8 v5_) (.cons (.int .u8 v6_) (.cons (.int .u8 v7_) (.cons (.int .u8 v8_) (.cons (.int .u8 v9_) (.cons (.int .u8 (.var 10)) (.cons (.int .u8 (.var 11)) (.cons (.int .u8 (.var 12)) (.cons (.int .u8 (.var 13)) (.cons (.int .u8 (.var 14)) (.cons (.int .u8 (.var 15)) .nil))))))))))))))))) (.cons (.tup (.cons (.int .u8 (.var 16)) (.cons (.int .u8 (.lit 0)) .nil))) .nil))))) .nil))) (.cons (.int .i64 (wr_ (.iapp 16 (.cons (.tup (.cons (.int .u8 v0_) (.cons (.int .u8 v1_) (.cons (.int .u8 v2_) (.cons (.int .u8 v3_) (.cons (.int .u8 v4_) (.cons (.int .u8 v5_) (.cons (.int .u8 v6_) (.cons (.int .u8 v7_) (.cons (.int .u8 v8_) (.cons (.int .u8 v9_) (.cons (.int .u8 (.var 10)) (.cons (.int .u8 (.var 11)) (.cons (.int .u8 (.var 12)) (.cons (.int .u8 (.var 13)) (.cons (.int .u8 (.var 14)) (.cons (.int .u8 (.var 15)) .nil))))))))))))))))) (.cons (.tup (.cons (.int .u8 (.var 16)) (.cons (.int .u8 (.lit 1)) .nil))) .nil))))) .nil))) .nil)))) (.cons (.int .i64 (.lit 16)) .nil)))) .nil))) (.cons (.int .i64 (.lit 14)) .nil))))) (.cons (.int .u8 (.ofI (.vop (.sel 1 0) (.cons (.vop .cat (.cons (.vapp 6 (.cons (.vapp 6 (.cons (.tup .nil) (.cons (.int .i64 (wr_ (.iapp 16 (.cons (.tup (.cons (.int .u8 v0_) (.cons (.int .u8 v1_) (.cons (.int .u8 v2_) (.cons (.int .u8 v3_) (.cons (.int .u8 v4_) (.cons (.int .u8 v5_) (.cons (.int .u8 v6_) (.cons (.int .u8 v7_) (.cons (.int .u8 v8_) (.cons (.int .u8 v9_) (.cons (.int .u8 (.var 10)) (.cons (.int .u8 (.var 11)) (.cons (.int .u8 (.var 12)) (.cons (.int .u8 (.var 13)) (.cons (.int .u8 (.var 14)) (.cons (.int .u8 (.var 15)) .nil))))))))))))))))) (.cons (.tup (.cons (.int .u8 (.var 16)) (.cons (.int .u8 (.lit 0)) .nil))) .nil))))) .nil))) (.cons (.int .i64 (wr_ (.iapp 16 (.cons (.tup (.cons (.int .u8 v0_) (.cons (.int .u8 v1_) (.cons (.int .u8 v2_) (.cons (.int .u8 v3_) (.cons (.int .u8 v4_) (.cons (.int .u8 v5_) (.cons (.int .u8 v6_) (.cons (.int .u8 v7_) (.cons (.int .u8 v8_) (.cons (.int .u8 v9_) (.cons (.int .u8 (.var 10)) (.cons (.int .u8 (.var 11)) (.cons (.int .u8 (.var 12)) (.cons (.int .u8 (.var 13)) (.cons (.int .u8 (.var 14)) (.cons (.int .u8 (.var 15)) .nil))))))))))))))))) (.cons (.tup (.cons (.int .u8 (.var 16)) (.cons (.int .u8 (.lit 1)) .nil))) .nil))))) .nil))) (.cons (.vop (.sub 1) (.cons (.tup (.cons (.int .u8 (.lit 0)) (.cons (.int .u8 (.lit 0)) (.cons (.int .u8 (.lit 0)) (.cons (.int .u8 (.lit 0)) (.cons (.int .u8 (.lit 0)) (.cons (.int .u8 (.lit 0)) (.cons (.int .u8 (.lit 0)) (.cons (.int .u8 (.lit 0)) (.cons (.int .u8 (.lit 0)) (.cons (.int .u8 (.lit 0)) (.cons (.int .u8 (.lit 0)) (.cons (.int .u8 (.lit 0)) (.cons (.int .u8 (.lit 0)) (.cons (.int .u8 (.lit 0)) (.cons (.int .u8 (.lit 0)) (.cons (.int .u8 (.lit 0)) .nil))))))))))))))))) (.cons (.int .i64 (.ofI (.vop (.len 1) (.cons (.vapp 6 (.cons (.vapp 6 (.cons (.tup .nil) (.cons (.int .i64 (wr_ (.iapp 16 (.cons (.tup (.cons (.int .u8 v0_) (.cons (.int .u8 v1_) (.cons (.int .u8 v2_) (.cons (.int .u8 v3_) (.cons (.int .u8 v4_) (.cons (.int .u8 v5_) (.cons (.int .u8 v6_) (.cons (.int .u8 v7_) (.cons (.int .u8 v8_) (.cons (.int .u8 v9_) (.cons (.int .u8 (.var 10)) (.cons (.int .u8 (.var 11)) (.cons (.int .u8 (.var 12)) (.cons (.int .u8 (.var 13)) (.cons (.int .u8 (.var 14)) (.cons (.int .u8 (.var 15)) .nil))))))))))))))))) (.cons (.tup (.cons (.int .u8 (.var 16)) (.cons (.int .u8 (.lit 0)) .nil))) .nil))))) .nil))) (.cons (.int .i64 (wr_ (.iapp 16 (.cons (.tup (.cons (.int .u8 v0_) (.cons (.int .u8 v1_) (.cons (.int .u8 v2_) (.cons (.int .u8 v3_) (.cons (.int .u8 v4_) (.cons (.int .u8 v5_) (.cons (.int .u8 v6_) (.cons (.int .u8 v7_) (.cons (.int .u8 v8_) (.cons (.int .u8 v9_) (.cons (.int .u8 (.var 10)) (.cons (.int .u8 (.var 11)) (.cons (.int .u8 (.var 12)) (.cons (.int .u8 (.var 13)) (.cons (.int .u8 (.var 14)) (.cons (.int .u8 (.var 15)) .nil))))))))))))))))) (.cons (.tup (.cons (.int .u8 (.var 16)) (.cons (.int .u8 (.lit 1)) .nil))) .nil))))) .nil))) .nil)))) (.cons (.int .i64 (.lit 16)) .nil)))) .nil))) (.cons (.int .i64 (.lit 15)) .nil))))) .nil))))))))))))))))))))))
abbrev zsc_pder : Con := ⟨12, [(.agg (.cons (.int .u8 v0_) (.cons (.int .u8 v1_) (.cons (.int .u8 v2_) (.cons (.int .u8 v3_) (.cons (.int .u8 v4_) (.cons (.int .u8 v5_) (.cons (.int .u8 v6_) (.cons (.int .u8 v7_) (.cons (.int .u8 v8_) (.cons (.int .u8 v9_) (.cons (.int .u8 (.var 10)) (.cons (.int .u8 (.var 11)) (.cons (.int .u8 (.var 12)) (.cons (.int .u8 (.var 13)) (.cons (.int .u8 (.var 14)) (.cons (.int .u8 (.var 15)) .nil))))))))))))))))), (.int .u8 (.var 16))], (an_ (.bapp 0 (.cons (.tup (.cons (.int .u8 v0_) (.cons (.int .u8 v1_) (.cons (.int .u8 v2_) (.cons (.int .u8 v3_) (.cons (.int .u8 v4_) (.cons (.int .u8 v5_) (.cons (.int .u8 v6_) (.cons (.int .u8 v7_) (.cons (.int .u8 v8_) (.cons (.int .u8 v9_) (.cons (.int .u8 (.var 10)) (.cons (.int .u8 (.var 11)) (.cons (.int .u8 (.var 12)) (.cons (.int .u8 (.var 13)) (.cons (.int .u8 (.var 14)) (.cons (.int .u8 (.var 15)) .nil))))))))))))))))) .nil)) (an_ (le_ (.lit 0) (.var 16)) (le_ (.var 16) (.lit 255)))), (.agg (.cons (.int .u8 (.iapp 18 (.cons (.tup (.cons (.int .u8 v0_) (.cons (.int .u8 v1_) (.cons (.int .u8 v2_) (.cons (.int .u8 v3_) (.cons (.int .u8 v4_) (.cons (.int .u8 v5_) (.cons (.int .u8 v6_) (.cons (.int .u8 v7_) (.cons (.int .u8 v8_) (.cons (.int .u8 v9_) (.cons (.int .u8 (.var 10)) (.cons (.int .u8 (.var 11)) (.cons (.int .u8 (.var 12)) (.cons (.int .u8 (.var 13)) (.cons (.int .u8 (.var 14)) (.cons (.int .u8 (.var 15)) .nil))))))))))))))))) (.cons (.int .u8 (.var 16)) (.cons (.int .i64 (.lit 0)) .nil))))) (.cons (.int .u8 (.iapp 18 (.cons (.tup (.cons (.int .u8 v0_) (.cons (.int .u8 v1_) (.cons (.int .u8 v2_) (.cons (.int .u8 v3_) (.cons (.int .u8 v4_) (.cons (.int .u8 v5_) (.cons (.int .u8 v6_) (.cons (.int .u8 v7_) (.cons (.int .u8 v8_) (.cons (.int .u8 v9_) (.cons (.int .u8 (.var 10)) (.cons (.int .u8 (.var 11)) (.cons (.int .u8 (.var 12)) (.cons (.int .u8 (.var 13)) (.cons (.int .u8 (.var 14)) (.cons (.int .u8 (.var 15)) .nil))))))))))))))))) (.cons (.int .u8 (.var 16)) (.cons (.int .i64 (.lit 1)) .nil))))) (.cons (.int .u8 (.iapp 18 (.cons (.tup (.cons (.int .u8 v0_) (.cons (.int .u8 v1_) (.cons (.int .u8 v2_) (.cons (.int .u8 v3_) (.cons (.int .u8 v4_) (.cons (.int .u8 v5_) (.cons (.int .u8 v6_) (.cons (.int .u8 v7_) (.cons (.int .u8 v8_) (.cons (.int .u8 v9_) (.cons (.int .u8 (.var 10)) (.cons (.int .u8 (.var 11)) (.cons (.int .u8 (.var 12)) (.cons (.int .u8 (.var 13)) (.cons (.int .u8 (.var 14)) (.cons (.int .u8 (.var 15)) .nil))))))))))))))))) (.cons (.int .u8 (.var 16)) (.cons (.int .i64 (.lit 2)) .nil))))) (.cons (.int .u8 (.iapp 18 (.cons (.tup (.cons (.int .u8 v0_) (.cons (.int .u8 v1_) (.cons (.int .u8 v2_) (.cons (.int .u8 v3_) (.cons (.int .u8 v4_) (.cons (.int .u8 v5_) (.cons (.int .u8 v6_) (.cons (.int .u8 v7_) (.cons (.int .u8 v8_) (.cons (.int .u8 v9_) (.cons (.int .u8 (.var 10)) (.cons (.int .u8 (.var 11)) (.cons (.int .u8 (.var 12)) (.cons (.int .u8 (.var 13)) (.cons (.int .u8 (.var 14)) (.cons (.int .u8 (.var 15)) .nil))))))))))))))))) (.cons (.int .u8 (.var 16)) (.cons (.int .i64 (.lit 3)) .nil))))) (.cons (.int .u8 (.iapp 18 (.cons (.tup (.cons (.int .u8 v0_) (.cons (.int .u8 v1_) (.cons (.int .u8 v2_) (.cons (.int .u8 v3_) (.cons (.int .u8 v4_) (.cons (.int .u8 v5_) (.cons (.int .u8 v6_) (.cons (.int .u8 v7_) (.cons (.int .u8 v8_) (.cons (.int .u8 v9_) (.cons (.int .u8 (.var 10)) (.cons (.int .u8 (.var 11)) (.cons (.int .u8 (.var 12)) (.cons (.int .u8 (.var 13)) (.cons (.int .u8 (.var 14)) (.cons (.int .u8 (.var 15)) .nil))))))))))))))))) (.cons (.int .u8 (.var 16)) (.cons (.int .i64 (.lit 4)) .nil))))) (.cons (.int .u8 (.iapp 18 (.cons (.tup (.cons (.int .u8 v0_) (.cons (.int .u8 v1_) (.cons (.int .u8 v2_) (.cons (.int .u8 v3_) (.cons (.int .u8 v4_) (.cons (.int .u8 v5_) (.cons (.int .u8 v6_) (.cons (.int .u8 v7_) (.cons (.int .u8 v8_) (.cons (.int .u8 v9_) (.cons (.int .u8 (.var 10)) (.cons (.int .u8 (.var 11)) (.cons (.int .u8 (.var 12)) (.cons (.int .u8 (.var 13)) (.cons (.int .u8 (.var 14)) (.cons (.int .u8 (.var 15)) .nil))))))))))))))))) (.cons (.int .u8 (.var 16)) (.cons (.int .i64 (.lit 5)) .nil))))) (.cons (.int .u8 (.iapp 18 (.cons (.tup (.cons (.int .u8 v0_) (.cons (.int .u8 v1_) (.cons (.int .u8 v2_) (.cons (.int .u8 v3_) (.cons (.int .u8 v4_) (.cons (.int .u8 v5_) (.cons (.int .u8 v6_) (.cons (.int .u8 v7_) (.cons (.int .u8 v8_) (.cons (.int .u8 v9_) (.cons (.int .u8 (.var 10)) (.cons (.int .u8 (.var 11)) (.cons (.int .u8 (.var 12)) (.cons (.int .u8 (.var 13)) (.cons (.int .u8 (.var 14)) (.cons (.int .u8 (.var 15)) .nil))))))))))))))))) (.cons (.int .u8 (.var 16)) (.cons (.int .i64 (.lit 6)) .nil))))) (.cons (.int .u8 (.iapp 18 (.cons (.tup (.cons (.int .u8 v0_) (.cons (.int .u8 v1_) (.cons (.int .u8 v2_) (.cons (.int .u8 v3_) (.cons (.int .u8 v4_) (.cons (.int .u8 v5_) (.cons (.int .u8 v6_) (.cons (.int .u8 v7_) (.cons (.int .u8 v8_) (.cons (.int .u8 v9_) (.cons (.int .u8 (.var 10)) (.cons (.int .u8 (.var 11)) (.cons (.int .u8 (.var 12)) (.cons (.int .u8 (.var 13)) (.cons (.int .u8 (.var 14)) (.cons (.int .u8 (.var 15)) .nil))))))))))))))))) (.cons (.int .u8 (.var 16)) (.cons (.int .i64 (.lit 7)) .nil))))) (.cons (.int .u8 (.iapp 18 (.cons (.tup (.cons (.int .u8 v0_) (.cons (.int .u8 v1_) (.cons (.int .u8 v2_) (.cons (.int .u8 v3_) (.cons (.int .u8 v4_) (.cons (.int .u8 v5_) (.cons (.int .u8 v6_) (.cons (.int .u8 v7_) (.cons (.int .u8 v8_) (.cons (.int .u8 v9_) (.cons (.int .u8 (.var 10)) (.cons (.int .u8 (.var 11)) (.cons (.int .u8 (.var 12)) (.cons (.int .u8 (.var 13)) (.cons (.int .u8 (.var 14)) (.cons (.int .u8 (.var 15)) .nil))))))))))))))))) (.cons (.int .u8 (.var 16)) (.cons (.int .i64 (.lit 8)) .nil))))) (.cons (.int .u8 (.iapp 18 (.cons (.tup (.cons (.int .u8 v0_) (.cons (.int .u8 v1_) (.cons (.int .u8 v2_) (.cons (.int .u8 v3_) (.cons (.int .u8 v4_) (.cons (.int .u8 v5_) (.cons (.int .u8 v6_) (.cons (.int .u8 v7_) (.cons (.int .u8 v8_) (.cons (.int .u8 v9_) (.cons (.int .u8 (.var 10)) (.cons (.int .u8 (.var 11)) (.cons (.int .u8 (.var 12)) (.cons (.int .u8 (.var 13)) (.cons (.int .u8 (.var 14)) (.cons (.int .u8 (.var 15)) .nil))))))))))))))))) (.cons (.int .u8 (.var 16)) (.cons (.int .i64 (.lit 9)) .nil))))) (.cons (.int .u8 (.iapp 18 (.cons (.tup (.cons (.int .u8 v0_) (.cons (.int .u8 v1_) (.cons (.int .u8 v2_) (.cons (.int .u8 v3_) (.cons (.int .u8 v4_) (.cons (.int .u8 v5_) (.cons (.int .u8 v6_) (.cons (.int .u8 v7_) (.cons (.int .u8 v8_) (.cons (.int .u8 v9_) (.cons (.int .u8 (.var 10)) (.cons (.int .u8 (.var 11)) (.cons (.int .u8 (.var 12)) (.cons (.int .u8 (.var 13)) (.cons (.int .u8 (.var 14)) (.cons (.int .u8 (.var 15)) .nil))))))))))))))))) (.cons (.int .u8 (.var 16)) (.cons (.int .i64 (.lit 10)) .nil))))) (.cons (.int .u8 (.iapp 18 (.cons (.tup (.cons (.int .u8 v0_) (.cons (.int .u8 v1_) (.cons (.int .u8 v2_) (.cons (.int .u8 v3_) (.cons (.int .u8 v4_) (.cons (.int .u8 v5_) (.cons (.int .u8 v6_) (.cons (.int .u8 v7_) (.cons (.int .u8 v8_) (.cons (.int .u8 v9_) (.cons (.int .u8 (.var 10)) (.cons (.int .u8 (.var 11)) (.cons (.int .u8 (.var 12)) (.cons (.int .u8 (.var 13)) (.cons (.int .u8 (.var 14)) (.cons (.int .u8 (.var 15)) .nil))))))))))))))))) (.cons (.int .u8 (.var 16)) (.cons (.int .i64 (.lit 11)) .nil))))) (.cons (.int .u8 (.iapp 18 (.cons (.tup (.cons (.int .u8 v0_) (.cons (.int .u8 v1_) (.cons (.int .u8 v2_) (.cons (.int .u8 v3_) (.cons (.int .u8 v4_) (.cons (.int .u8 v5_) (.cons (.int .u8 v6_) (.cons (.int .u8 v7_) (.cons (.int .u8 v8_) (.cons (.int .u8 v9_) (.cons (.int .u8 (.var 10)) (.cons (.int .u8 (.var 11)) (.cons (.int .u8 (.var 12)) (.cons (.int .u8 (.var 13)) (.cons (.int .u8 (.var 14)) (.cons (.int .u8 (.var 15)) .nil))))))))))))))))) (.cons (.int .u8 (.var 16)) (.cons (.int .i64 (.lit 12)) .nil))))) (.cons (.int .u8 (.iapp 18 (.cons (.tup (.cons (.int .u8 v0_) (.cons (.int .u8 v1_) (.cons (.int .u8 v2_) (.cons (.int .u8 v3_) (.cons (.int .u8 v4_) (.cons (.int .u8 v5_) (.cons (.int .u8 v6_) (.cons (.int .u8 v7_) (.cons (.int .u8 v8_) (.cons (.int .u8 v9_) (.cons (.int .u8 (.var 10)) (.cons (.int .u8 (.var 11)) (.cons (.int .u8 (.var 12)) (.cons (.int .u8 (.var 13)) (.cons (.int .u8 (.var 14)) (.cons (.int .u8 (.var 15)) .nil))))))))))))))))) (.cons (.int .u8 (.var 16)) (.cons (.int .i64 (.lit 13)) .nil))))) (.cons (.int .u8 (.iapp 18 (.cons (.tup (.cons (.int .u8 v0_) (.cons (.int .u8 v1_) (.cons (.int .u8 v2_) (.cons (.int .u8 v3_) (.cons (.int .u8 v4_) (.cons (.int .u8 v5_) (.cons (.int .u8 v6_) (.cons (.int .u8 v7_) (.cons (.int .u8 v8_) (.cons (.int .u8 v9_) (.cons (.int .u8 (.var 10)) (.cons (.int .u8 (.var 11)) (.cons (.int .u8 (.var 12)) (.cons (.int .u8 (.var 13)) (.cons (.int .u8 (.var 14)) (.cons (.int .u8 (.var 15)) .nil))))))))))))))))) (.cons (.int .u8 (.var 16)) (.cons (.int .i64 (.lit 14)) .nil))))) (.cons (.int .u8 (.iapp 18 (.cons (.tup (.cons (.int .u8 v0_) (.cons (.int .u8 v1_) (.cons (.int .u8 v2_) (.cons (.int .u8 v3_) (.cons (.int .u8 v4_) (.cons (.int .u8 v5_) (.cons (.int .u8 v6_) (.cons (.int .u8 v7_) (.cons (.int .u8 v8_) (.cons (.int .u8 v9_) (.cons (.int .u8 (.var 10)) (.cons (.int .u8 (.var 11)) (.cons (.int .u8 (.var 12)) (.cons (.int .u8 (.var 13)) (.cons (.int .u8 (.var 14)) (.cons (.int .u8 (.var 15)) .nil))))))))))))))))) (.cons (.int .u8 (.var 16)) (.cons (.int .i64 (.lit 15)) .nil))))) .nil))))))))))))))))), ⟨17, 0, 0, 0⟩, none⟩
theorem pder_w : walk Try.prog 102 ⟨[zpc_i64p, zqc_psum], syG, [], [], []⟩ [] .v zsc_pder zsc_pder.n 3000 = some pder_tree := by kernel_rfl
theorem pder_h (k0 : Int) (k1 : Int) (k2 : Int) (k3 : Int) (k4 : Int) (k5 : Int) (k6 : Int) (k7 : Int) (k8 : Int) (k9 : Int) (k10 : Int) (k11 : Int) (k12 : Int) (k13 : Int) (k14 : Int) (k15 : Int) (u : Int) (hc : holds (zsE [k0, k1, k2, k3, k4, k5, k6, k7, k8, k9, k10, k11, k12, k13, k14, k15, u] [] [] []) (an_ (.bapp 0 (.cons (.tup (.cons (.int .u8 v0_) (.cons (.int .u8 v1_) (.cons (.int .u8 v2_) (.cons (.int .u8 v3_) (.cons (.int .u8 v4_) (.cons (.int .u8 v5_) (.cons (.int .u8 v6_) (.cons (.int .u8 v7_) (.cons (.int .u8 v8_) (.cons (.int .u8 v9_) (.cons (.int .u8 (.var 10)) (.cons (.int .u8 (.var 11)) (.cons (.int .u8 (.var 12)) (.cons (.int .u8 (.var 13)) (.cons (.int .u8 (.var 14)) (.cons (.int .u8 (.var 15)) .nil))))))))))))))))) .nil)) (an_ (le_ (.lit 0) (.var 16)) (le_ (.var 16) (.lit 255))))) (hty : patsTyp (zsE [k0, k1, k2, k3, k4, k5, k6, k7, k8, k9, k10, k11, k12, k13, k14, k15, u] [] [] []) [(.agg (.cons (.int .u8 v0_) (.cons (.int .u8 v1_) (.cons (.int .u8 v2_) (.cons (.int .u8 v3_) (.cons (.int .u8 v4_) (.cons (.int .u8 v5_) (.cons (.int .u8 v6_) (.cons (.int .u8 v7_) (.cons (.int .u8 v8_) (.cons (.int .u8 v9_) (.cons (.int .u8 (.var 10)) (.cons (.int .u8 (.var 11)) (.cons (.int .u8 (.var 12)) (.cons (.int .u8 (.var 13)) (.cons (.int .u8 (.var 14)) (.cons (.int .u8 (.var 15)) .nil))))))))))))))))), (.int .u8 (.var 16))]) : pder_tree.holds (fun v_ => v_ = denV (zsE [k0, k1, k2, k3, k4, k5, k6, k7, k8, k9, k10, k11, k12, k13, k14, k15, u] [] [] []) b0 (.agg (.cons (.int .u8 (.iapp 18 (.cons (.tup (.cons (.int .u8 v0_) (.cons (.int .u8 v1_) (.cons (.int .u8 v2_) (.cons (.int .u8 v3_) (.cons (.int .u8 v4_) (.cons (.int .u8 v5_) (.cons (.int .u8 v6_) (.cons (.int .u8 v7_) (.cons (.int .u8 v8_) (.cons (.int .u8 v9_) (.cons (.int .u8 (.var 10)) (.cons (.int .u8 (.var 11)) (.cons (.int .u8 (.var 12)) (.cons (.int .u8 (.var 13)) (.cons (.int .u8 (.var 14)) (.cons (.int .u8 (.var 15)) .nil))))))))))))))))) (.cons (.int .u8 (.var 16)) (.cons (.int .i64 (.lit 0)) .nil))))) (.cons (.int .u8 (.iapp 18 (.cons (.tup (.cons (.int .u8 v0_) (.cons (.int .u8 v1_) (.cons (.int .u8 v2_) (.cons (.int .u8 v3_) (.cons (.int .u8 v4_) (.cons (.int .u8 v5_) (.cons (.int .u8 v6_) (.cons (.int .u8 v7_) (.cons (.int .u8 v8_) (.cons (.int .u8 v9_) (.cons (.int .u8 (.var 10)) (.cons (.int .u8 (.var 11)) (.cons (.int .u8 (.var 12)) (.cons (.int .u8 (.var 13)) (.cons (.int .u8 (.var 14)) (.cons (.int .u8 (.var 15)) .nil))))))))))))))))) (.cons (.int .u8 (.var 16)) (.cons (.int .i64 (.lit 1)) .nil))))) (.cons (.int .u8 (.iapp 18 (.cons (.tup (.cons (.int .u8 v0_) (.cons (.int .u8 v1_) (.cons (.int .u8 v2_) (.cons (.int .u8 v3_) (.cons (.int .u8 v4_) (.cons (.int .u8 v5_) (.cons (.int .u8 v6_) (.cons (.int .u8 v7_) (.cons (.int .u8 v8_) (.cons (.int .u8 v9_) (.cons (.int .u8 (.var 10)) (.cons (.int .u8 (.var 11)) (.cons (.int .u8 (.var 12)) (.cons (.int .u8 (.var 13)) (.cons (.int .u8 (.var 14)) (.cons (.int .u8 (.var 15)) .nil))))))))))))))))) (.cons (.int .u8 (.var 16)) (.cons (.int .i64 (.lit 2)) .nil))))) (.cons (.int .u8 (.iapp 18 (.cons (.tup (.cons (.int .u8 v0_) (.cons (.int .u8 v1_) (.cons (.int .u8 v2_) (.cons (.int .u8 v3_) (.cons (.int .u8 v4_) (.cons (.int .u8 v5_) (.cons (.int .u8 v6_) (.cons (.int .u8 v7_) (.cons (.int .u8 v8_) (.cons (.int .u8 v9_) (.cons (.int .u8 (.var 10)) (.cons (.int .u8 (.var 11)) (.cons (.int .u8 (.var 12)) (.cons (.int .u8 (.var 13)) (.cons (.int .u8 (.var 14)) (.cons (.int .u8 (.var 15)) .nil))))))))))))))))) (.cons (.int .u8 (.var 16)) (.cons (.int .i64 (.lit 3)) .nil))))) (.cons (.int .u8 (.iapp 18 (.cons (.tup (.cons (.int .u8 v0_) (.cons (.int .u8 v1_) (.cons (.int .u8 v2_) (.cons (.int .u8 v3_) (.cons (.int .u8 v4_) (.cons (.int .u8 v5_) (.cons (.int .u8 v6_) (.cons (.int .u8 v7_) (.cons (.int .u8 v8_) (.cons (.int .u8 v9_) (.cons (.int .u8 (.var 10)) (.cons (.int .u8 (.var 11)) (.cons (.int .u8 (.var 12)) (.cons (.int .u8 (.var 13)) (.cons (.int .u8 (.var 14)) (.cons (.int .u8 (.var 15)) .nil))))))))))))))))) (.cons (.int .u8 (.var 16)) (.cons (.int .i64 (.lit 4)) .nil))))) (.cons (.int .u8 (.iapp 18 (.cons (.tup (.cons (.int .u8 v0_) (.cons (.int .u8 v1_) (.cons (.int .u8 v2_) (.cons (.int .u8 v3_) (.cons (.int .u8 v4_) (.cons (.int .u8 v5_) (.cons (.int .u8 v6_) (.cons (.int .u8 v7_) (.cons (.int .u8 v8_) (.cons (.int .u8 v9_) (.cons (.int .u8 (.var 10)) (.cons (.int .u8 (.var 11)) (.cons (.int .u8 (.var 12)) (.cons (.int .u8 (.var 13)) (.cons (.int .u8 (.var 14)) (.cons (.int .u8 (.var 15)) .nil))))))))))))))))) (.cons (.int .u8 (.var 16)) (.cons (.int .i64 (.lit 5)) .nil))))) (.cons (.int .u8 (.iapp 18 (.cons (.tup (.cons (.int .u8 v0_) (.cons (.int .u8 v1_) (.cons (.int .u8 v2_) (.cons (.int .u8 v3_) (.cons (.int .u8 v4_) (.cons (.int .u8 v5_) (.cons (.int .u8 v6_) (.cons (.int .u8 v7_) (.cons (.int .u8 v8_) (.cons (.int .u8 v9_) (.cons (.int .u8 (.var 10)) (.cons (.int .u8 (.var 11)) (.cons (.int .u8 (.var 12)) (.cons (.int .u8 (.var 13)) (.cons (.int .u8 (.var 14)) (.cons (.int .u8 (.var 15)) .nil))))))))))))))))) (.cons (.int .u8 (.var 16)) (.cons (.int .i64 (.lit 6)) .nil))))) (.cons (.int .u8 (.iapp 18 (.cons (.tup (.cons (.int .u8 v0_) (.cons (.int .u8 v1_) (.cons (.int .u8 v2_) (.cons (.int .u8 v3_) (.cons (.int .u8 v4_) (.cons (.int .u8 v5_) (.cons (.int .u8 v6_) (.cons (.int .u8 v7_) (.cons (.int .u8 v8_) (.cons (.int .u8 v9_) (.cons (.int .u8 (.var 10)) (.cons (.int .u8 (.var 11)) (.cons (.int .u8 (.var 12)) (.cons (.int .u8 (.var 13)) (.cons (.int .u8 (.var 14)) (.cons (.int .u8 (.var 15)) .nil))))))))))))))))) (.cons (.int .u8 (.var 16)) (.cons (.int .i64 (.lit 7)) .nil))))) (.cons (.int .u8 (.iapp 18 (.cons (.tup (.cons (.int .u8 v0_) (.cons (.int .u8 v1_) (.cons (.int .u8 v2_) (.cons (.int .u8 v3_) (.cons (.int .u8 v4_) (.cons (.int .u8 v5_) (.cons (.int .u8 v6_) (.cons (.int .u8 v7_) (.cons (.int .u8 v8_) (.cons (.int .u8 v9_) (.cons (.int .u8 (.var 10)) (.cons (.int .u8 (.var 11)) (.cons (.int .u8 (.var 12)) (.cons (.int .u8 (.var 13)) (.cons (.int .u8 (.var 14)) (.cons (.int .u8 (.var 15)) .nil))))))))))))))))) (.cons (.int .u8 (.var 16)) (.cons (.int .i64 (.lit 8)) .nil))))) (.cons (.int .u8 (.iapp 18 (.cons (.tup (.cons (.int .u8 v0_) (.cons (.int .u8 v1_) (.cons (.int .u8 v2_) (.cons (.int .u8 v3_) (.cons (.int .u8 v4_) (.cons (.int .u8 v5_) (.cons (.int .u8 v6_) (.cons (.int .u8 v7_) (.cons (.int .u8 v8_) (.cons (.int .u8 v9_) (.cons (.int .u8 (.var 10)) (.cons (.int .u8 (.var 11)) (.cons (.int .u8 (.var 12)) (.cons (.int .u8 (.var 13)) (.cons (.int .u8 (.var 14)) (.cons (.int .u8 (.var 15)) .nil))))))))))))))))) (.cons (.int .u8 (.var 16)) (.cons (.int .i64 (.lit 9)) .nil))))) (.cons (.int .u8 (.iapp 18 (.cons (.tup (.cons (.int .u8 v0_) (.cons (.int .u8 v1_) (.cons (.int .u8 v2_) (.cons (.int .u8 v3_) (.cons (.int .u8 v4_) (.cons (.int .u8 v5_) (.cons (.int .u8 v6_) (.cons (.int .u8 v7_) (.cons (.int .u8 v8_) (.cons (.int .u8 v9_) (.cons (.int .u8 (.var 10)) (.cons (.int .u8 (.var 11)) (.cons (.int .u8 (.var 12)) (.cons (.int .u8 (.var 13)) (.cons (.int .u8 (.var 14)) (.cons (.int .u8 (.var 15)) .nil))))))))))))))))) (.cons (.int .u8 (.var 16)) (.cons (.int .i64 (.lit 10)) .nil))))) (.cons (.int .u8 (.iapp 18 (.cons (.tup (.cons (.int .u8 v0_) (.cons (.int .u8 v1_) (.cons (.int .u8 v2_) (.cons (.int .u8 v3_) (.cons (.int .u8 v4_) (.cons (.int .u8 v5_) (.cons (.int .u8 v6_) (.cons (.int .u8 v7_) (.cons (.int .u8 v8_) (.cons (.int .u8 v9_) (.cons (.int .u8 (.var 10)) (.cons (.int .u8 (.var 11)) (.cons (.int .u8 (.var 12)) (.cons (.int .u8 (.var 13)) (.cons (.int .u8 (.var 14)) (.cons (.int .u8 (.var 15)) .nil))))))))))))))))) (.cons (.int .u8 (.var 16)) (.cons (.int .i64 (.lit 11)) .nil))))) (.cons (.int .u8 (.iapp 18 (.cons (.tup (.cons (.int .u8 v0_) (.cons (.int .u8 v1_) (.cons (.int .u8 v2_) (.cons (.int .u8 v3_) (.cons (.int .u8 v4_) (.cons (.int .u8 v5_) (.cons (.int .u8 v6_) (.cons (.int .u8 v7_) (.cons (.int .u8 v8_) (.cons (.int .u8 v9_) (.cons (.int .u8 (.var 10)) (.cons (.int .u8 (.var 11)) (.cons (.int .u8 (.var 12)) (.cons (.int .u8 (.var 13)) (.cons (.int .u8 (.var 14)) (.cons (.int .u8 (.var 15)) .nil))))))))))))))))) (.cons (.int .u8 (.var 16)) (.cons (.int .i64 (.lit 12)) .nil))))) (.cons (.int .u8 (.iapp 18 (.cons (.tup (.cons (.int .u8 v0_) (.cons (.int .u8 v1_) (.cons (.int .u8 v2_) (.cons (.int .u8 v3_) (.cons (.int .u8 v4_) (.cons (.int .u8 v5_) (.cons (.int .u8 v6_) (.cons (.int .u8 v7_) (.cons (.int .u8 v8_) (.cons (.int .u8 v9_) (.cons (.int .u8 (.var 10)) (.cons (.int .u8 (.var 11)) (.cons (.int .u8 (.var 12)) (.cons (.int .u8 (.var 13)) (.cons (.int .u8 (.var 14)) (.cons (.int .u8 (.var 15)) .nil))))))))))))))))) (.cons (.int .u8 (.var 16)) (.cons (.int .i64 (.lit 13)) .nil))))) (.cons (.int .u8 (.iapp 18 (.cons (.tup (.cons (.int .u8 v0_) (.cons (.int .u8 v1_) (.cons (.int .u8 v2_) (.cons (.int .u8 v3_) (.cons (.int .u8 v4_) (.cons (.int .u8 v5_) (.cons (.int .u8 v6_) (.cons (.int .u8 v7_) (.cons (.int .u8 v8_) (.cons (.int .u8 v9_) (.cons (.int .u8 (.var 10)) (.cons (.int .u8 (.var 11)) (.cons (.int .u8 (.var 12)) (.cons (.int .u8 (.var 13)) (.cons (.int .u8 (.var 14)) (.cons (.int .u8 (.var 15)) .nil))))))))))))))))) (.cons (.int .u8 (.var 16)) (.cons (.int .i64 (.lit 14)) .nil))))) (.cons (.int .u8 (.iapp 18 (.cons (.tup (.cons (.int .u8 v0_) (.cons (.int .u8 v1_) (.cons (.int .u8 v2_) (.cons (.int .u8 v3_) (.cons (.int .u8 v4_) (.cons (.int .u8 v5_) (.cons (.int .u8 v6_) (.cons (.int .u8 v7_) (.cons (.int .u8 v8_) (.cons (.int .u8 v9_) (.cons (.int .u8 (.var 10)) (.cons (.int .u8 (.var 11)) (.cons (.int .u8 (.var 12)) (.cons (.int .u8 (.var 13)) (.cons (.int .u8 (.var 14)) (.cons (.int .u8 (.var 15)) .nil))))))))))))))))) (.cons (.int .u8 (.var 16)) (.cons (.int .i64 (.lit 15)) .nil))))) .nil)))))))))))))))))) (zsE [k0, k1, k2, k3, k4, k5, k6, k7, k8, k9, k10, k11, k12, k13, k14, k15, u] [] [] []) := by
  simp only [Tree.holds, Sy.holds, AllN, Env.more, zsE, List.cons_append, List.nil_append, List.append_nil, denV, denI, denB, denL, I2.den, VOp.den, List.getD_cons_zero, List.getD_cons_succ, Cst.den, syso, syse, syio, sybo, zsb_okr, List.map_nil, List.map_cons, B2.ofInts, B2.denI, B2.denB, if_true, Bool.false_eq_true, if_false, Nat.div_one, Nat.mul_one, Nat.add_zero, holds] at hc
  simp only [patsTyp, patTyp, patTypL, zsE, denV, denL, List.getD_cons_zero, List.getD_cons_succ, and_true, true_and] at hty
  unfold pder_tree
  simp only [Tree.holds, Sy.holds, AllN, Env.more, zsE, List.cons_append, List.nil_append, List.append_nil, denV, denI, denB, denL, I2.den, VOp.den, List.getD_cons_zero, List.getD_cons_succ, Cst.den, syso, syse, syio, sybo, zsi_sip, zsi_dv, zsb_okr, zsv_p8, List.map_nil, List.map_cons, B2.ofInts, B2.denI, B2.denB, if_true, Bool.false_eq_true, if_false, Nat.div_one, Nat.mul_one, Nat.add_zero]
  generalize hKT : Value.tuple #[Value.int .u8 k0, Value.int .u8 k1, Value.int .u8 k2, Value.int .u8 k3, Value.int .u8 k4, Value.int .u8 k5, Value.int .u8 k6, Value.int .u8 k7, Value.int .u8 k8, Value.int .u8 k9, Value.int .u8 k10, Value.int .u8 k11, Value.int .u8 k12, Value.int .u8 k13, Value.int .u8 k14, Value.int .u8 k15] = KT at hc ⊢
  have o0 : okR [Value.int .u8 u, Value.int .u8 0] = true := okR_isB (.cons hc.2.1 hc.2.2 (.cons (by decide) (by decide) .nil))
  have o1 : okR [Value.int .u8 u, Value.int .u8 1] = true := okR_isB (.cons hc.2.1 hc.2.2 (.cons (by decide) (by decide) .nil))
  have n0 := numB_i64 (sip_rng (byL (Sy.rows KT)) (byL [Value.int .u8 u, Value.int .u8 0])).1 (sip_rng _ _).2
  have n1 := numB_i64 (sip_rng (byL (Sy.rows KT)) (byL [Value.int .u8 u, Value.int .u8 1])).1 (sip_rng _ _).2
  have r0 := sip_rng (byL (Sy.rows KT)) (byL [Value.int .u8 u, Value.int .u8 0])
  have r1 := sip_rng (byL (Sy.rows KT)) (byL [Value.int .u8 u, Value.int .u8 1])
  simp only [rows_arr, rows_put, List.nil_append, n0, n1, nBdrop, List.append_nil, nB16, numB_len, List.length_nil]
  refine ⟨?_, fun h0 => ?_⟩
  ·
   first
   | exact ⟨hc.1, o0, by simp⟩
   | exact ⟨hc.1, o1, by simp⟩
   | decide
   | (have w0 := wr_i64 (sipS (byL (Sy.rows KT)) (byL [Value.int .u8 u, Value.int .u8 0]))
      have w1 := wr_i64 (sipS (byL (Sy.rows KT)) (byL [Value.int .u8 u, Value.int .u8 1]))
      first
      | omega
      | exact ⟨by decide, by omega, by omega⟩)
  ·
   refine ⟨?_, fun h1 => ?_⟩
   ·
    first
    | exact ⟨hc.1, o0, by simp⟩
    | exact ⟨hc.1, o1, by simp⟩
    | decide
    | (have w0 := wr_i64 (sipS (byL (Sy.rows KT)) (byL [Value.int .u8 u, Value.int .u8 0]))
       have w1 := wr_i64 (sipS (byL (Sy.rows KT)) (byL [Value.int .u8 u, Value.int .u8 1]))
       first
       | omega
       | exact ⟨by decide, by omega, by omega⟩)
   ·
    refine ⟨?_, fun h2 => ?_⟩
    ·
     first
     | exact ⟨hc.1, o0, by simp⟩
     | exact ⟨hc.1, o1, by simp⟩
     | decide
     | (have w0 := wr_i64 (sipS (byL (Sy.rows KT)) (byL [Value.int .u8 u, Value.int .u8 0]))
        have w1 := wr_i64 (sipS (byL (Sy.rows KT)) (byL [Value.int .u8 u, Value.int .u8 1]))
        first
        | omega
        | exact ⟨by decide, by omega, by omega⟩)
    ·
     refine ⟨?_, fun h3 => ?_⟩
     ·
      first
      | exact ⟨hc.1, o0, by simp⟩
      | exact ⟨hc.1, o1, by simp⟩
      | decide
      | (have w0 := wr_i64 (sipS (byL (Sy.rows KT)) (byL [Value.int .u8 u, Value.int .u8 0]))
         have w1 := wr_i64 (sipS (byL (Sy.rows KT)) (byL [Value.int .u8 u, Value.int .u8 1]))
         first
         | omega
         | exact ⟨by decide, by omega, by omega⟩)
     ·
      rfl
theorem zsg_pder : zsc_pder.Good Try.prog syG (zsE [] [] [] []) := good_of_walk (Γ := ⟨[zpc_i64p, zqc_psum], syG, [], [], []⟩) (ρ := zsE [] [] [] []) sym pder_w rfl (fun _ _ _ _ => (ok_cons (Con.Good.env (Con.Good.up (Con.Good.up (Con.Good.up zpg_i64p zqup rfl) zrup rfl) zsup rfl) _ _ _ _) (ok_cons (Con.Good.env (Con.Good.up (Con.Good.up zqg_psum zrup rfl) zsup rfl) _ _ _ _) ok_nil))) (fun k0 k1 k2 k3 k4 k5 k6 k7 k8 k9 k10 k11 k12 k13 k14 k15 u hc hty => pder_h k0 k1 k2 k3 k4 k5 k6 k7 k8 k9 k10 k11 k12 k13 k14 k15 u hc hty)
def rder_tree : Tree :=
 (.need (an_ (.bapp 0 (.cons (.tup (.cons (.int .u8 v0_) (.cons (.int .u8 v1_) (.cons (.int .u8 v2_) (.cons (.int .u8 v3_) (.cons (.int .u8 v4_) (.cons (.int .u8 v5_) (.cons (.int .u8 v6_) (.cons (.int .u8 v7_) (.cons (.int .u8 v8_) (.cons (.int .u8 v9_) (.cons (.int .u8 (.var 10)) (.cons (.int .u8 (.var 11)) (.cons (.int .u8 (.var 12)) (.cons (.int .u8 (.var 13)) (.cons (.int .u8 (.var 14)) (.cons (.int .u8 (.var 15)) .nil))))))))))))))))) .nil)) (an_ (.bapp 0 (.cons (.tup (.cons (.int .u8 (.var 16)) (.cons (.int .u8 (.lit 0)) .nil))) .nil)) (le_ (.ofI (.vop (.len 1) (.cons (.tup (.cons (.int .u8 (.var 16)) (.cons (.int .u8 (.lit 0)) .nil))) .nil))) (.lit 70368744177664))))
 (.need (an_ (le_ (.ofI (.vop (.len 1) (.cons (.tup .nil) .nil))) (.lit 70368744177664)) (an_ (le_ (.lit 0) (.iapp 16 (.cons (.tup (.cons (.int .u8 v0_) (.cons (.int .u8 v1_) (.cons (.int .u8 v2_) (.cons (.int .u8 v3_) (.cons (.int .u8 v4_) (.cons (.int .u8 v5_) (.cons (.int .u8 v6_) (.cons (.int .u8 v7_) (.cons (.int .u8 v8_) (.cons (.int .u8 v9_) (.cons (.int .u8 (.var 10)) (.cons (.int .u8 (.var 11)) (.cons (.int .u8 (.var 12)) (.cons (.int .u8 (.var 13)) (.cons (.int .u8 (.var 14)) (.cons (.int .u8 (.var 15)) .nil))))))))))))))))) (.cons (.tup (.cons (.int .u8 (.var 16)) (.cons (.int .u8 (.lit 0)) .nil))) .nil)))) (le_ (.iapp 16 (.cons (.tup (.cons (.int .u8 v0_) (.cons (.int .u8 v1_) (.cons (.int .u8 v2_) (.cons (.int .u8 v3_) (.cons (.int .u8 v4_) (.cons (.int .u8 v5_) (.cons (.int .u8 v6_) (.cons (.int .u8 v7_) (.cons (.int .u8 v8_) (.cons (.int .u8 v9_) (.cons (.int .u8 (.var 10)) (.cons (.int .u8 (.var 11)) (.cons (.int .u8 (.var 12)) (.cons (.int .u8 (.var 13)) (.cons (.int .u8 (.var 14)) (.cons (.int .u8 (.var 15)) .nil))))))))))))))))) (.cons (.tup (.cons (.int .u8 (.var 16)) (.cons (.int .u8 (.lit 0)) .nil))) .nil))) (.lit 18446744073709551615))))
 (.need (an_ (.bapp 0 (.cons (.tup (.cons (.int .u8 v0_) (.cons (.int .u8 v1_) (.cons (.int .u8 v2_) (.cons (.int .u8 v3_) (.cons (.int .u8 v4_) (.cons (.int .u8 v5_) (.cons (.int .u8 v6_) (.cons (.int .u8 v7_) (.cons (.int .u8 v8_) (.cons (.int .u8 v9_) (.cons (.int .u8 (.var 10)) (.cons (.int .u8 (.var 11)) (.cons (.int .u8 (.var 12)) (.cons (.int .u8 (.var 13)) (.cons (.int .u8 (.var 14)) (.cons (.int .u8 (.var 15)) .nil))))))))))))))))) .nil)) (an_ (.bapp 0 (.cons (.tup (.cons (.int .u8 (.var 16)) (.cons (.int .u8 (.lit 1)) .nil))) .nil)) (le_ (.ofI (.vop (.len 1) (.cons (.tup (.cons (.int .u8 (.var 16)) (.cons (.int .u8 (.lit 1)) .nil))) .nil))) (.lit 70368744177664))))
 (.need (an_ (le_ (.ofI (.vop (.len 1) (.cons (.vapp 6 (.cons (.tup .nil) (.cons (.int .u64 (.iapp 16 (.cons (.tup (.cons (.int .u8 v0_) (.cons (.int .u8 v1_) (.cons (.int .u8 v2_) (.cons (.int .u8 v3_) (.cons (.int .u8 v4_) (.cons (.int .u8 v5_) (.cons (.int .u8 v6_) (.cons (.int .u8 v7_) (.cons (.int .u8 v8_) (.cons (.int .u8 v9_) (.cons (.int .u8 (.var 10)) (.cons (.int .u8 (.var 11)) (.cons (.int .u8 (.var 12)) (.cons (.int .u8 (.var 13)) (.cons (.int .u8 (.var 14)) (.cons (.int .u8 (.var 15)) .nil))))))))))))))))) (.cons (.tup (.cons (.int .u8 (.var 16)) (.cons (.int .u8 (.lit 0)) .nil))) .nil)))) .nil))) .nil))) (.lit 70368744177664)) (an_ (le_ (.lit 0) (.iapp 16 (.cons (.tup (.cons (.int .u8 v0_) (.cons (.int .u8 v1_) (.cons (.int .u8 v2_) (.cons (.int .u8 v3_) (.cons (.int .u8 v4_) (.cons (.int .u8 v5_) (.cons (.int .u8 v6_) (.cons (.int .u8 v7_) (.cons (.int .u8 v8_) (.cons (.int .u8 v9_) (.cons (.int .u8 (.var 10)) (.cons (.int .u8 (.var 11)) (.cons (.int .u8 (.var 12)) (.cons (.int .u8 (.var 13)) (.cons (.int .u8 (.var 14)) (.cons (.int .u8 (.var 15)) .nil))))))))))))))))) (.cons (.tup (.cons (.int .u8 (.var 16)) (.cons (.int .u8 (.lit 1)) .nil))) .nil)))) (le_ (.iapp 16 (.cons (.tup (.cons (.int .u8 v0_) (.cons (.int .u8 v1_) (.cons (.int .u8 v2_) (.cons (.int .u8 v3_) (.cons (.int .u8 v4_) (.cons (.int .u8 v5_) (.cons (.int .u8 v6_) (.cons (.int .u8 v7_) (.cons (.int .u8 v8_) (.cons (.int .u8 v9_) (.cons (.int .u8 (.var 10)) (.cons (.int .u8 (.var 11)) (.cons (.int .u8 (.var 12)) (.cons (.int .u8 (.var 13)) (.cons (.int .u8 (.var 14)) (.cons (.int .u8 (.var 15)) .nil))))))))))))))))) (.cons (.tup (.cons (.int .u8 (.var 16)) (.cons (.int .u8 (.lit 1)) .nil))) .nil))) (.lit 18446744073709551615))))
 (.need (lt_ (.lit 0) (.ofI (.vop (.len 1) (.cons (.vapp 6 (.cons (.vapp 6 (.cons (.tup .nil) (.cons (.int .u64 (.iapp 16 (.cons (.tup (.cons (.int .u8 v0_) (.cons (.int .u8 v1_) (.cons (.int .u8 v2_) (.cons (.int .u8 v3_) (.cons (.int .u8 v4_) (.cons (.int .u8 v5_) (.cons (.int .u8 v6_) (.cons (.int .u8 v7_) (.cons (.int .u8 v8_) (.cons (.int .u8 v9_) (.cons (.int .u8 (.var 10)) (.cons (.int .u8 (.var 11)) (.cons (.int .u8 (.var 12)) (.cons (.int .u8 (.var 13)) (.cons (.int .u8 (.var 14)) (.cons (.int .u8 (.var 15)) .nil))))))))))))))))) (.cons (.tup (.cons (.int .u8 (.var 16)) (.cons (.int .u8 (.lit 0)) .nil))) .nil)))) .nil))) (.cons (.int .u64 (.iapp 16 (.cons (.tup (.cons (.int .u8 v0_) (.cons (.int .u8 v1_) (.cons (.int .u8 v2_) (.cons (.int .u8 v3_) (.cons (.int .u8 v4_) (.cons (.int .u8 v5_) (.cons (.int .u8 v6_) (.cons (.int .u8 v7_) (.cons (.int .u8 v8_) (.cons (.int .u8 v9_) (.cons (.int .u8 (.var 10)) (.cons (.int .u8 (.var 11)) (.cons (.int .u8 (.var 12)) (.cons (.int .u8 (.var 13)) (.cons (.int .u8 (.var 14)) (.cons (.int .u8 (.var 15)) .nil))))))))))))))))) (.cons (.tup (.cons (.int .u8 (.var 16)) (.cons (.int .u8 (.lit 1)) .nil))) .nil)))) .nil))) .nil))))
 (.need (lt_ (.lit 1) (.ofI (.vop (.len 1) (.cons (.vapp 6 (.cons (.vapp 6 (.cons (.tup .nil) (.cons (.int .u64 (.iapp 16 (.cons (.tup (.cons (.int .u8 v0_) (.cons (.int .u8 v1_) (.cons (.int .u8 v2_) (.cons (.int .u8 v3_) (.cons (.int .u8 v4_) (.cons (.int .u8 v5_) (.cons (.int .u8 v6_) (.cons (.int .u8 v7_) (.cons (.int .u8 v8_) (.cons (.int .u8 v9_) (.cons (.int .u8 (.var 10)) (.cons (.int .u8 (.var 11)) (.cons (.int .u8 (.var 12)) (.cons (.int .u8 (.var 13)) (.cons (.int .u8 (.var 14)) (.cons (.int .u8 (.var 15)) .nil))))))))))))))))) (.cons (.tup (.cons (.int .u8 (.var 16)) (.cons (.int .u8 (.lit 0)) .nil))) .nil)))) .nil))) (.cons (.int .u64 (.iapp 16 (.cons (.tup (.cons (.int .u8 v0_) (.cons (.int .u8 v1_) (.cons (.int .u8 v2_) (.cons (.int .u8 v3_) (.cons (.int .u8 v4_) (.cons (.int .u8 v5_) (.cons (.int .u8 v6_) (.cons (.int .u8 v7_) (.cons (.int .u8 v8_) (.cons (.int .u8 v9_) (.cons (.int .u8 (.var 10)) (.cons (.int .u8 (.var 11)) (.cons (.int .u8 (.var 12)) (.cons (.int .u8 (.var 13)) (.cons (.int .u8 (.var 14)) (.cons (.int .u8 (.var 15)) .nil))))))))))))))))) (.cons (.tup (.cons (.int .u8 (.var 16)) (.cons (.int .u8 (.lit 1)) .nil))) .nil)))) .nil))) .nil))))
 (.need (lt_ (.lit 2) (.ofI (.vop (.len 1) (.cons (.vapp 6 (.cons (.vapp 6 (.cons (.tup .nil) (.cons (.int .u64 (.iapp 16 (.cons (.tup (.cons (.int .u8 v0_) (.cons (.int .u8 v1_) (.cons (.int .u8 v2_) (.cons (.int .u8 v3_) (.cons (.int .u8 v4_) (.cons (.int .u8 v5_) (.cons (.int .u8 v6_) (.cons (.int .u8 v7_) (.cons (.int .u8 v8_) (.cons (.int .u8 v9_) (.cons (.int .u8 (.var 10)) (.cons (.int .u8 (.var 11)) (.cons (.int .u8 (.var 12)) (.cons (.int .u8 (.var 13)) (.cons (.int .u8 (.var 14)) (.cons (.int .u8 (.var 15)) .nil))))))))))))))))) (.cons (.tup (.cons (.int .u8 (.var 16)) (.cons (.int .u8 (.lit 0)) .nil))) .nil)))) .nil))) (.cons (.int .u64 (.iapp 16 (.cons (.tup (.cons (.int .u8 v0_) (.cons (.int .u8 v1_) (.cons (.int .u8 v2_) (.cons (.int .u8 v3_) (.cons (.int .u8 v4_) (.cons (.int .u8 v5_) (.cons (.int .u8 v6_) (.cons (.int .u8 v7_) (.cons (.int .u8 v8_) (.cons (.int .u8 v9_) (.cons (.int .u8 (.var 10)) (.cons (.int .u8 (.var 11)) (.cons (.int .u8 (.var 12)) (.cons (.int .u8 (.var 13)) (.cons (.int .u8 (.var 14)) (.cons (.int .u8 (.var 15)) .nil))))))))))))))))) (.cons (.tup (.cons (.int .u8 (.var 16)) (.cons (.int .u8 (.lit 1)) .nil))) .nil)))) .nil))) .nil))))
 (.need (lt_ (.lit 3) (.ofI (.vop (.len 1) (.cons (.vapp 6 (.cons (.vapp 6 (.cons (.tup .nil) (.cons (.int .u64 (.iapp 16 (.cons (.tup (.cons (.int .u8 v0_) (.cons (.int .u8 v1_) (.cons (.int .u8 v2_) (.cons (.int .u8 v3_) (.cons (.int .u8 v4_) (.cons (.int .u8 v5_) (.cons (.int .u8 v6_) (.cons (.int .u8 v7_) (.cons (.int .u8 v8_) (.cons (.int .u8 v9_) (.cons (.int .u8 (.var 10)) (.cons (.int .u8 (.var 11)) (.cons (.int .u8 (.var 12)) (.cons (.int .u8 (.var 13)) (.cons (.int .u8 (.var 14)) (.cons (.int .u8 (.var 15)) .nil))))))))))))))))) (.cons (.tup (.cons (.int .u8 (.var 16)) (.cons (.int .u8 (.lit 0)) .nil))) .nil)))) .nil))) (.cons (.int .u64 (.iapp 16 (.cons (.tup (.cons (.int .u8 v0_) (.cons (.int .u8 v1_) (.cons (.int .u8 v2_) (.cons (.int .u8 v3_) (.cons (.int .u8 v4_) (.cons (.int .u8 v5_) (.cons (.int .u8 v6_) (.cons (.int .u8 v7_) (.cons (.int .u8 v8_) (.cons (.int .u8 v9_) (.cons (.int .u8 (.var 10)) (.cons (.int .u8 (.var 11)) (.cons (.int .u8 (.var 12)) (.cons (.int .u8 (.var 13)) (.cons (.int .u8 (.var 14)) (.cons (.int .u8 (.var 15)) .nil))))))))))))))))) (.cons (.tup (.cons (.int .u8 (.var 16)) (.cons (.int .u8 (.lit 1)) .nil))) .nil)))) .nil))) .nil))))
 (.need (lt_ (.lit 4) (.ofI (.vop (.len 1) (.cons (.vapp 6 (.cons (.vapp 6 (.cons (.tup .nil) (.cons (.int .u64 (.iapp 16 (.cons (.tup (.cons (.int .u8 v0_) (.cons (.int .u8 v1_) (.cons (.int .u8 v2_) (.cons (.int .u8 v3_) (.cons (.int .u8 v4_) (.cons (.int .u8 v5_) (.cons (.int .u8 v6_) (.cons (.int .u8 v7_) (.cons (.int .u8 v8_) (.cons (.int .u8 v9_) (.cons (.int .u8 (.var 10)) (.cons (.int .u8 (.var 11)) (.cons (.int .u8 (.var 12)) (.cons (.int .u8 (.var 13)) (.cons (.int .u8 (.var 14)) (.cons (.int .u8 (.var 15)) .nil))))))))))))))))) (.cons (.tup (.cons (.int .u8 (.var 16)) (.cons (.int .u8 (.lit 0)) .nil))) .nil)))) .nil))) (.cons (.int .u64 (.iapp 16 (.cons (.tup (.cons (.int .u8 v0_) (.cons (.int .u8 v1_) (.cons (.int .u8 v2_) (.cons (.int .u8 v3_) (.cons (.int .u8 v4_) (.cons (.int .u8 v5_) (.cons (.int .u8 v6_) (.cons (.int .u8 v7_) (.cons (.int .u8 v8_) (.cons (.int .u8 v9_) (.cons (.int .u8 (.var 10)) (.cons (.int .u8 (.var 11)) (.cons (.int .u8 (.var 12)) (.cons (.int .u8 (.var 13)) (.cons (.int .u8 (.var 14)) (.cons (.int .u8 (.var 15)) .nil))))))))))))))))) (.cons (.tup (.cons (.int .u8 (.var 16)) (.cons (.int .u8 (.lit 1)) .nil))) .nil)))) .nil))) .nil))))
 (.need (lt_ (.lit 5) (.ofI (.vop (.len 1) (.cons (.vapp 6 (.cons (.vapp 6 (.cons (.tup .nil) (.cons (.int .u64 (.iapp 16 (.cons (.tup (.cons (.int .u8 v0_) (.cons (.int .u8 v1_) (.cons (.int .u8 v2_) (.cons (.int .u8 v3_) (.cons (.int .u8 v4_) (.cons (.int .u8 v5_) (.cons (.int .u8 v6_) (.cons (.int .u8 v7_) (.cons (.int .u8 v8_) (.cons (.int .u8 v9_) (.cons (.int .u8 (.var 10)) (.cons (.int .u8 (.var 11)) (.cons (.int .u8 (.var 12)) (.cons (.int .u8 (.var 13)) (.cons (.int .u8 (.var 14)) (.cons (.int .u8 (.var 15)) .nil))))))))))))))))) (.cons (.tup (.cons (.int .u8 (.var 16)) (.cons (.int .u8 (.lit 0)) .nil))) .nil)))) .nil))) (.cons (.int .u64 (.iapp 16 (.cons (.tup (.cons (.int .u8 v0_) (.cons (.int .u8 v1_) (.cons (.int .u8 v2_) (.cons (.int .u8 v3_) (.cons (.int .u8 v4_) (.cons (.int .u8 v5_) (.cons (.int .u8 v6_) (.cons (.int .u8 v7_) (.cons (.int .u8 v8_) (.cons (.int .u8 v9_) (.cons (.int .u8 (.var 10)) (.cons (.int .u8 (.var 11)) (.cons (.int .u8 (.var 12)) (.cons (.int .u8 (.var 13)) (.cons (.int .u8 (.var 14)) (.cons (.int .u8 (.var 15)) .nil))))))))))))))))) (.cons (.tup (.cons (.int .u8 (.var 16)) (.cons (.int .u8 (.lit 1)) .nil))) .nil)))) .nil))) .nil))))
 (.need (lt_ (.lit 6) (.ofI (.vop (.len 1) (.cons (.vapp 6 (.cons (.vapp 6 (.cons (.tup .nil) (.cons (.int .u64 (.iapp 16 (.cons (.tup (.cons (.int .u8 v0_) (.cons (.int .u8 v1_) (.cons (.int .u8 v2_) (.cons (.int .u8 v3_) (.cons (.int .u8 v4_) (.cons (.int .u8 v5_) (.cons (.int .u8 v6_) (.cons (.int .u8 v7_) (.cons (.int .u8 v8_) (.cons (.int .u8 v9_) (.cons (.int .u8 (.var 10)) (.cons (.int .u8 (.var 11)) (.cons (.int .u8 (.var 12)) (.cons (.int .u8 (.var 13)) (.cons (.int .u8 (.var 14)) (.cons (.int .u8 (.var 15)) .nil))))))))))))))))) (.cons (.tup (.cons (.int .u8 (.var 16)) (.cons (.int .u8 (.lit 0)) .nil))) .nil)))) .nil))) (.cons (.int .u64 (.iapp 16 (.cons (.tup (.cons (.int .u8 v0_) (.cons (.int .u8 v1_) (.cons (.int .u8 v2_) (.cons (.int .u8 v3_) (.cons (.int .u8 v4_) (.cons (.int .u8 v5_) (.cons (.int .u8 v6_) (.cons (.int .u8 v7_) (.cons (.int .u8 v8_) (.cons (.int .u8 v9_) (.cons (.int .u8 (.var 10)) (.cons (.int .u8 (.var 11)) (.cons (.int .u8 (.var 12)) (.cons (.int .u8 (.var 13)) (.cons (.int .u8 (.var 14)) (.cons (.int .u8 (.var 15)) .nil))))))))))))))))) (.cons (.tup (.cons (.int .u8 (.var 16)) (.cons (.int .u8 (.lit 1)) .nil))) .nil)))) .nil))) .nil))))
 (.need (lt_ (.lit 7) (.ofI (.vop (.len 1) (.cons (.vapp 6 (.cons (.vapp 6 (.cons (.tup .nil) (.cons (.int .u64 (.iapp 16 (.cons (.tup (.cons (.int .u8 v0_) (.cons (.int .u8 v1_) (.cons (.int .u8 v2_) (.cons (.int .u8 v3_) (.cons (.int .u8 v4_) (.cons (.int .u8 v5_) (.cons (.int .u8 v6_) (.cons (.int .u8 v7_) (.cons (.int .u8 v8_) (.cons (.int .u8 v9_) (.cons (.int .u8 (.var 10)) (.cons (.int .u8 (.var 11)) (.cons (.int .u8 (.var 12)) (.cons (.int .u8 (.var 13)) (.cons (.int .u8 (.var 14)) (.cons (.int .u8 (.var 15)) .nil))))))))))))))))) (.cons (.tup (.cons (.int .u8 (.var 16)) (.cons (.int .u8 (.lit 0)) .nil))) .nil)))) .nil))) (.cons (.int .u64 (.iapp 16 (.cons (.tup (.cons (.int .u8 v0_) (.cons (.int .u8 v1_) (.cons (.int .u8 v2_) (.cons (.int .u8 v3_) (.cons (.int .u8 v4_) (.cons (.int .u8 v5_) (.cons (.int .u8 v6_) (.cons (.int .u8 v7_) (.cons (.int .u8 v8_) (.cons (.int .u8 v9_) (.cons (.int .u8 (.var 10)) (.cons (.int .u8 (.var 11)) (.cons (.int .u8 (.var 12)) (.cons (.int .u8 (.var 13)) (.cons (.int .u8 (.var 14)) (.cons (.int .u8 (.var 15)) .nil))))))))))))))))) (.cons (.tup (.cons (.int .u8 (.var 16)) (.cons (.int .u8 (.lit 1)) .nil))) .nil)))) .nil))) .nil))))
 (.need (lt_ (.lit 8) (.ofI (.vop (.len 1) (.cons (.vapp 6 (.cons (.vapp 6 (.cons (.tup .nil) (.cons (.int .u64 (.iapp 16 (.cons (.tup (.cons (.int .u8 v0_) (.cons (.int .u8 v1_) (.cons (.int .u8 v2_) (.cons (.int .u8 v3_) (.cons (.int .u8 v4_) (.cons (.int .u8 v5_) (.cons (.int .u8 v6_) (.cons (.int .u8 v7_) (.cons (.int .u8 v8_) (.cons (.int .u8 v9_) (.cons (.int .u8 (.var 10)) (.cons (.int .u8 (.var 11)) (.cons (.int .u8 (.var 12)) (.cons (.int .u8 (.var 13)) (.cons (.int .u8 (.var 14)) (.cons (.int .u8 (.var 15)) .nil))))))))))))))))) (.cons (.tup (.cons (.int .u8 (.var 16)) (.cons (.int .u8 (.lit 0)) .nil))) .nil)))) .nil))) (.cons (.int .u64 (.iapp 16 (.cons (.tup (.cons (.int .u8 v0_) (.cons (.int .u8 v1_) (.cons (.int .u8 v2_) (.cons (.int .u8 v3_) (.cons (.int .u8 v4_) (.cons (.int .u8 v5_) (.cons (.int .u8 v6_) (.cons (.int .u8 v7_) (.cons (.int .u8 v8_) (.cons (.int .u8 v9_) (.cons (.int .u8 (.var 10)) (.cons (.int .u8 (.var 11)) (.cons (.int .u8 (.var 12)) (.cons (.int .u8 (.var 13)) (.cons (.int .u8 (.var 14)) (.cons (.int .u8 (.var 15)) .nil))))))))))))))))) (.cons (.tup (.cons (.int .u8 (.var 16)) (.cons (.int .u8 (.lit 1)) .nil))) .nil)))) .nil))) .nil))))
 (.need (lt_ (.lit 9) (.ofI (.vop (.len 1) (.cons (.vapp 6 (.cons (.vapp 6 (.cons (.tup .nil) (.cons (.int .u64 (.iapp 16 (.cons (.tup (.cons (.int .u8 v0_) (.cons (.int .u8 v1_) (.cons (.int .u8 v2_) (.cons (.int .u8 v3_) (.cons (.int .u8 v4_) (.cons (.int .u8 v5_) (.cons (.int .u8 v6_) (.cons (.int .u8 v7_) (.cons (.int .u8 v8_) (.cons (.int .u8 v9_) (.cons (.int .u8 (.var 10)) (.cons (.int .u8 (.var 11)) (.cons (.int .u8 (.var 12)) (.cons (.int .u8 (.var 13)) (.cons (.int .u8 (.var 14)) (.cons (.int .u8 (.var 15)) .nil))))))))))))))))) (.cons (.tup (.cons (.int .u8 (.var 16)) (.cons (.int .u8 (.lit 0)) .nil))) .nil)))) .nil))) (.cons (.int .u64 (.iapp 16 (.cons (.tup (.cons (.int .u8 v0_) (.cons (.int .u8 v1_) (.cons (.int .u8 v2_) (.cons (.int .u8 v3_) (.cons (.int .u8 v4_) (.cons (.int .u8 v5_) (.cons (.int .u8 v6_) (.cons (.int .u8 v7_) (.cons (.int .u8 v8_) (.cons (.int .u8 v9_) (.cons (.int .u8 (.var 10)) (.cons (.int .u8 (.var 11)) (.cons (.int .u8 (.var 12)) (.cons (.int .u8 (.var 13)) (.cons (.int .u8 (.var 14)) (.cons (.int .u8 (.var 15)) .nil))))))))))))))))) (.cons (.tup (.cons (.int .u8 (.var 16)) (.cons (.int .u8 (.lit 1)) .nil))) .nil)))) .nil))) .nil))))
 (.need (lt_ (.lit 10) (.ofI (.vop (.len 1) (.cons (.vapp 6 (.cons (.vapp 6 (.cons (.tup .nil) (.cons (.int .u64 (.iapp 16 (.cons (.tup (.cons (.int .u8 v0_) (.cons (.int .u8 v1_) (.cons (.int .u8 v2_) (.cons (.int .u8 v3_) (.cons (.int .u8 v4_) (.cons (.int .u8 v5_) (.cons (.int .u8 v6_) (.cons (.int .u8 v7_) (.cons (.int .u8 v8_) (.cons (.int .u8 v9_) (.cons (.int .u8 (.var 10)) (.cons (.int .u8 (.var 11)) (.cons (.int .u8 (.var 12)) (.cons (.int .u8 (.var 13)) (.cons (.int .u8 (.var 14)) (.cons (.int .u8 (.var 15)) .nil))))))))))))))))) (.cons (.tup (.cons (.int .u8 (.var 16)) (.cons (.int .u8 (.lit 0)) .nil))) .nil)))) .nil))) (.cons (.int .u64 (.iapp 16 (.cons (.tup (.cons (.int .u8 v0_) (.cons (.int .u8 v1_) (.cons (.int .u8 v2_) (.cons (.int .u8 v3_) (.cons (.int .u8 v4_) (.cons (.int .u8 v5_) (.cons (.int .u8 v6_) (.cons (.int .u8 v7_) (.cons (.int .u8 v8_) (.cons (.int .u8 v9_) (.cons (.int .u8 (.var 10)) (.cons (.int .u8 (.var 11)) (.cons (.int .u8 (.var 12)) (.cons (.int .u8 (.var 13)) (.cons (.int .u8 (.var 14)) (.cons (.int .u8 (.var 15)) .nil))))))))))))))))) (.cons (.tup (.cons (.int .u8 (.var 16)) (.cons (.int .u8 (.lit 1)) .nil))) .nil)))) .nil))) .nil))))
 (.need (lt_ (.lit 11) (.ofI (.vop (.len 1) (.cons (.vapp 6 (.cons (.vapp 6 (.cons (.tup .nil) (.cons (.int .u64 (.iapp 16 (.cons (.tup (.cons (.int .u8 v0_) (.cons (.int .u8 v1_) (.cons (.int .u8 v2_) (.cons (.int .u8 v3_) (.cons (.int .u8 v4_) (.cons (.int .u8 v5_) (.cons (.int .u8 v6_) (.cons (.int .u8 v7_) (.cons (.int .u8 v8_) (.cons (.int .u8 v9_) (.cons (.int .u8 (.var 10)) (.cons (.int .u8 (.var 11)) (.cons (.int .u8 (.var 12)) (.cons (.int .u8 (.var 13)) (.cons (.int .u8 (.var 14)) (.cons (.int .u8 (.var 15)) .nil))))))))))))))))) (.cons (.tup (.cons (.int .u8 (.var 16)) (.cons (.int .u8 (.lit 0)) .nil))) .nil)))) .nil))) (.cons (.int .u64 (.iapp 16 (.cons (.tup (.cons (.int .u8 v0_) (.cons (.int .u8 v1_) (.cons (.int .u8 v2_) (.cons (.int .u8 v3_) (.cons (.int .u8 v4_) (.cons (.int .u8 v5_) (.cons (.int .u8 v6_) (.cons (.int .u8 v7_) (.cons (.int .u8 v8_) (.cons (.int .u8 v9_) (.cons (.int .u8 (.var 10)) (.cons (.int .u8 (.var 11)) (.cons (.int .u8 (.var 12)) (.cons (.int .u8 (.var 13)) (.cons (.int .u8 (.var 14)) (.cons (.int .u8 (.var 15)) .nil))))))))))))))))) (.cons (.tup (.cons (.int .u8 (.var 16)) (.cons (.int .u8 (.lit 1)) .nil))) .nil)))) .nil))) .nil))))
 (.need (lt_ (.lit 12) (.ofI (.vop (.len 1) (.cons (.vapp 6 (.cons (.vapp 6 (.cons (.tup .nil) (.cons (.int .u64 (.iapp 16 (.cons (.tup (.cons (.int .u8 v0_) (.cons (.int .u8 v1_) (.cons (.int .u8 v2_) (.cons (.int .u8 v3_) (.cons (.int .u8 v4_) (.cons (.int .u8 v5_) (.cons (.int .u8 v6_) (.cons (.int .u8 v7_) (.cons (.int .u8 v8_) (.cons (.int .u8 v9_) (.cons (.int .u8 (.var 10)) (.cons (.int .u8 (.var 11)) (.cons (.int .u8 (.var 12)) (.cons (.int .u8 (.var 13)) (.cons (.int .u8 (.var 14)) (.cons (.int .u8 (.var 15)) .nil))))))))))))))))) (.cons (.tup (.cons (.int .u8 (.var 16)) (.cons (.int .u8 (.lit 0)) .nil))) .nil)))) .nil))) (.cons (.int .u64 (.iapp 16 (.cons (.tup (.cons (.int .u8 v0_) (.cons (.int .u8 v1_) (.cons (.int .u8 v2_) (.cons (.int .u8 v3_) (.cons (.int .u8 v4_) (.cons (.int .u8 v5_) (.cons (.int .u8 v6_) (.cons (.int .u8 v7_) (.cons (.int .u8 v8_) (.cons (.int .u8 v9_) (.cons (.int .u8 (.var 10)) (.cons (.int .u8 (.var 11)) (.cons (.int .u8 (.var 12)) (.cons (.int .u8 (.var 13)) (.cons (.int .u8 (.var 14)) (.cons (.int .u8 (.var 15)) .nil))))))))))))))))) (.cons (.tup (.cons (.int .u8 (.var 16)) (.cons (.int .u8 (.lit 1)) .nil))) .nil)))) .nil))) .nil))))
 (.need (lt_ (.lit 13) (.ofI (.vop (.len 1) (.cons (.vapp 6 (.cons (.vapp 6 (.cons (.tup .nil) (.cons (.int .u64 (.iapp 16 (.cons (.tup (.cons (.int .u8 v0_) (.cons (.int .u8 v1_) (.cons (.int .u8 v2_) (.cons (.int .u8 v3_) (.cons (.int .u8 v4_) (.cons (.int .u8 v5_) (.cons (.int .u8 v6_) (.cons (.int .u8 v7_) (.cons (.int .u8 v8_) (.cons (.int .u8 v9_) (.cons (.int .u8 (.var 10)) (.cons (.int .u8 (.var 11)) (.cons (.int .u8 (.var 12)) (.cons (.int .u8 (.var 13)) (.cons (.int .u8 (.var 14)) (.cons (.int .u8 (.var 15)) .nil))))))))))))))))) (.cons (.tup (.cons (.int .u8 (.var 16)) (.cons (.int .u8 (.lit 0)) .nil))) .nil)))) .nil))) (.cons (.int .u64 (.iapp 16 (.cons (.tup (.cons (.int .u8 v0_) (.cons (.int .u8 v1_) (.cons (.int .u8 v2_) (.cons (.int .u8 v3_) (.cons (.int .u8 v4_) (.cons (.int .u8 v5_) (.cons (.int .u8 v6_) (.cons (.int .u8 v7_) (.cons (.int .u8 v8_) (.cons (.int .u8 v9_) (.cons (.int .u8 (.var 10)) (.cons (.int .u8 (.var 11)) (.cons (.int .u8 (.var 12)) (.cons (.int .u8 (.var 13)) (.cons (.int .u8 (.var 14)) (.cons (.int .u8 (.var 15)) .nil))))))))))))))))) (.cons (.tup (.cons (.int .u8 (.var 16)) (.cons (.int .u8 (.lit 1)) .nil))) .nil)))) .nil))) .nil))))
 (.need (lt_ (.lit 14) (.ofI (.vop (.len 1) (.cons (.vapp 6 (.cons (.vapp 6 (.cons (.tup .nil) (.cons (.int .u64 (.iapp 16 (.cons (.tup (.cons (.int .u8 v0_) (.cons (.int .u8 v1_) (.cons (.int .u8 v2_) (.cons (.int .u8 v3_) (.cons (.int .u8 v4_) (.cons (.int .u8 v5_) (.cons (.int .u8 v6_) (.cons (.int .u8 v7_) (.cons (.int .u8 v8_) (.cons (.int .u8 v9_) (.cons (.int .u8 (.var 10)) (.cons (.int .u8 (.var 11)) (.cons (.int .u8 (.var 12)) (.cons (.int .u8 (.var 13)) (.cons (.int .u8 (.var 14)) (.cons (.int .u8 (.var 15)) .nil))))))))))))))))) (.cons (.tup (.cons (.int .u8 (.var 16)) (.cons (.int .u8 (.lit 0)) .nil))) .nil)))) .nil))) (.cons (.int .u64 (.iapp 16 (.cons (.tup (.cons (.int .u8 v0_) (.cons (.int .u8 v1_) (.cons (.int .u8 v2_) (.cons (.int .u8 v3_) (.cons (.int .u8 v4_) (.cons (.int .u8 v5_) (.cons (.int .u8 v6_) (.cons (.int .u8 v7_) (.cons (.int .u8 v8_) (.cons (.int .u8 v9_) (.cons (.int .u8 (.var 10)) (.cons (.int .u8 (.var 11)) (.cons (.int .u8 (.var 12)) (.cons (.int .u8 (.var 13)) (.cons (.int .u8 (.var 14)) (.cons (.int .u8 (.var 15)) .nil))))))))))))))))) (.cons (.tup (.cons (.int .u8 (.var 16)) (.cons (.int .u8 (.lit 1)) .nil))) .nil)))) .nil))) .nil))))
 (.need (lt_ (.lit 15) (.ofI (.vop (.len 1) (.cons (.vapp 6 (.cons (.vapp 6 (.cons (.tup .nil) (.cons (.int .u64 (.iapp 16 (.cons (.tup (.cons (.int .u8 v0_) (.cons (.int .u8 v1_) (.cons (.int .u8 v2_) (.cons (.int .u8 v3_) (.cons (.int .u8 v4_) (.cons (.int .u8 v5_) (.cons (.int .u8 v6_) (.cons (.int .u8 v7_) (.cons (.int .u8 v8_) (.cons (.int .u8 v9_) (.cons (.int .u8 (.var 10)) (.cons (.int .u8 (.var 11)) (.cons (.int .u8 (.var 12)) (.cons (.int .u8 (.var 13)) (.cons (.int .u8 (.var 14)) (.cons (.int .u8 (.var 15)) .nil))))))))))))))))) (.cons (.tup (.cons (.int .u8 (.var 16)) (.cons (.int .u8 (.lit 0)) .nil))) .nil)))) .nil))) (.cons (.int .u64 (.iapp 16 (.cons (.tup (.cons (.int .u8 v0_) (.cons (.int .u8 v1_) (.cons (.int .u8 v2_) (.cons (.int .u8 v3_) (.cons (.int .u8 v4_) (.cons (.int .u8 v5_) (.cons (.int .u8 v6_) (.cons (.int .u8 v7_) (.cons (.int .u8 v8_) (.cons (.int .u8 v9_) (.cons (.int .u8 (.var 10)) (.cons (.int .u8 (.var 11)) (.cons (.int .u8 (.var 12)) (.cons (.int .u8 (.var 13)) (.cons (.int .u8 (.var 14)) (.cons (.int .u8 (.var 15)) .nil))))))))))))))))) (.cons (.tup (.cons (.int .u8 (.var 16)) (.cons (.int .u8 (.lit 1)) .nil))) .nil)))) .nil))) .nil))))
 (.ret (.agg (.cons (.int .u8 (.ofI (.vop (.sel 1 0) (.cons (.vapp 6 (.cons (.vapp 6 (.cons (.tup .nil) (.cons (.int .u64 (.iapp 16 (.cons (.tup (.cons (.int .u8 v0_) (.cons (.int .u8 v1_) (.cons (.int .u8 v2_) (.cons (.int .u8 v3_) (.cons (.int .u8 v4_) (.cons (.int .u8 v5_) (.cons (.int .u8 v6_) (.cons (.int .u8 v7_) (.cons (.int .u8 v8_) (.cons (.int .u8 v9_) (.cons (.int .u8 (.var 10)) (.cons (.int .u8 (.var 11)) (.cons (.int .u8 (.var 12)) (.cons (.int .u8 (.var 13)) (.cons (.int .u8 (.var 14)) (.cons (.int .u8 (.var 15)) .nil))))))))))))))))) (.cons (.tup (.cons (.int .u8 (.var 16)) (.cons (.int .u8 (.lit 0)) .nil))) .nil)))) .nil))) (.cons (.int .u64 (.iapp 16 (.cons (.tup (.cons (.int .u8 v0_) (.cons (.int .u8 v1_) (.cons (.int .u8 v2_) (.cons (.int .u8 v3_) (.cons (.int .u8 v4_) (.cons (.int .u8 v5_) (.cons (.int .u8 v6_) (.cons (.int .u8 v7_) (.cons (.int .u8 v8_) (.cons (.int .u8 v9_) (.cons (.int .u8 (.var 10)) (.cons (.int .u8 (.var 11)) (.cons (.int .u8 (.var 12)) (.cons (.int .u8 (.var 13)) (.cons (.int .u8 (.var 14)) (.cons (.int .u8 (.var 15)) .nil))))))))))))))))) (.cons (.tup (.cons (.int .u8 (.var 16)) (.cons (.int .u8 (.lit 1)) .nil))) .nil)))) .nil))) (.cons (.int .i64 (.lit 0)) .nil))))) (.cons (.int .u8 (.ofI (.vop (.sel 1 0) (.cons (.vapp 6 (.cons (.vapp 6 (.cons (.tup .nil) (.cons (.int .u64 (.iapp 16 (.cons (.tup (.cons (.int .u8 v0_) (.cons (.int .u8 v1_) (.cons (.int .u8 v2_) (.cons (.int .u8 v3_) (.cons (.int .u8 v4_) (.cons (.int .u8 v5_) (.cons (.int .u8 v6_) (.cons (.int .u8 v7_) (.cons (.int .u8 v8_) (.cons (.int .u8 v9_) (.cons (.int .u8 (.var 10)) (.cons (.int .u8 (.var 11)) (.cons (.int .u8 (.var 12)) (.cons (.int .u8 (.var 13)) (.cons (.int .u8 (.var 14)) (.cons (.int .u8 (.var 15)) .nil))))))))))))))))) (.cons (.tup (.cons (.int .u8 (.var 16)) (.cons (.int .u8 (.lit 0)) .nil))) .nil)))) .nil))) (.cons (.int .u64 (.iapp 16 (.cons (.tup (.cons (.int .u8 v0_) (.cons (.int .u8 v1_) (.cons (.int .u8 v2_) (.cons (.int .u8 v3_) (.cons (.int .u8 v4_) (.cons (.int .u8 v5_) (.cons (.int .u8 v6_) (.cons (.int .u8 v7_) (.cons (.int .u8 v8_) (.cons (.int .u8 v9_) (.cons (.int .u8 (.var 10)) (.cons (.int .u8 (.var 11)) (.cons (.int .u8 (.var 12)) (.cons (.int .u8 (.var 13)) (.cons (.int .u8 (.var 14)) (.cons (.int .u8 (.var 15)) .nil))))))))))))))))) (.cons (.tup (.cons (.int .u8 (.var 16)) (.cons (.int .u8 (.lit 1)) .nil))) .nil)))) .nil))) (.cons (.int .i64 (.lit 1)) .nil))))) (.cons (.int .u8 (.ofI (.vop (.sel 1 0) (.cons (.vapp 6 (.cons (.vapp 6 (.cons (.tup .nil) (.cons (.int .u64 (.iapp 16 (.cons (.tup (.cons (.int .u8 v0_) (.cons (.int .u8 v1_) (.cons (.int .u8 v2_) (.cons (.int .u8 v3_) (.cons (.int .u8 v4_) (.cons (.int .u8 v5_) (.cons (.int .u8 v6_) (.cons (.int .u8 v7_) (.cons (.int .u8 v8_) (.cons (.int .u8 v9_) (.cons (.int .u8 (.var 10)) (.cons (.int .u8 (.var 11)) (.cons (.int .u8 (.var 12)) (.cons (.int .u8 (.var 13)) (.cons (.int .u8 (.var 14)) (.cons (.int .u8 (.var 15)) .nil))))))))))))))))) (.cons (.tup (.cons (.int .u8 (.var 16)) (.cons (.int .u8 (.lit 0)) .nil))) .nil)))) .nil))) (.cons (.int .u64 (.iapp 16 (.cons (.tup (.cons (.int .u8 v0_) (.cons (.int .u8 v1_) (.cons (.int .u8 v2_) (.cons (.int .u8 v3_) (.cons (.int .u8 v4_) (.cons (.int .u8 v5_) (.cons (.int .u8 v6_) (.cons (.int .u8 v7_) (.cons (.int .u8 v8_) (.cons (.int .u8 v9_) (.cons (.int .u8 (.var 10)) (.cons (.int .u8 (.var 11)) (.cons (.int .u8 (.var 12)) (.cons (.int .u8 (.var 13)) (.cons (.int .u8 (.var 14)) (.cons (.int .u8 (.var 15)) .nil))))))))))))))))) (.cons (.tup (.cons (.int .u8 (.var 16)) (.cons (.int .u8 (.lit 1)) .nil))) .nil)))) .nil))) (.cons (.int .i64 (.lit 2)) .nil))))) (.cons (.int .u8 (.ofI (.vop (.sel 1 0) (.cons (.vapp 6 (.cons (.vapp 6 (.cons (.tup .nil) (.cons (.int .u64 (.iapp 16 (.cons (.tup (.cons (.int .u8 v0_) (.cons (.int .u8 v1_) (.cons (.int .u8 v2_) (.cons (.int .u8 v3_) (.cons (.int .u8 v4_) (.cons (.int .u8 v5_) (.cons (.int .u8 v6_) (.cons (.int .u8 v7_) (.cons (.int .u8 v8_) (.cons (.int .u8 v9_) (.cons (.int .u8 (.var 10)) (.cons (.int .u8 (.var 11)) (.cons (.int .u8 (.var 12)) (.cons (.int .u8 (.var 13)) (.cons (.int .u8 (.var 14)) (.cons (.int .u8 (.var 15)) .nil))))))))))))))))) (.cons (.tup (.cons (.int .u8 (.var 16)) (.cons (.int .u8 (.lit 0)) .nil))) .nil)))) .nil))) (.cons (.int .u64 (.iapp 16 (.cons (.tup (.cons (.int .u8 v0_) (.cons (.int .u8 v1_) (.cons (.int .u8 v2_) (.cons (.int .u8 v3_) (.cons (.int .u8 v4_) (.cons (.int .u8 v5_) (.cons (.int .u8 v6_) (.cons (.int .u8 v7_) (.cons (.int .u8 v8_) (.cons (.int .u8 v9_) (.cons (.int .u8 (.var 10)) (.cons (.int .u8 (.var 11)) (.cons (.int .u8 (.var 12)) (.cons (.int .u8 (.var 13)) (.cons (.int .u8 (.var 14)) (.cons (.int .u8 (.var 15)) .nil))))))))))))))))) (.cons (.tup (.cons (.int .u8 (.var 16)) (.cons (.int .u8 (.lit 1)) .nil))) .nil)))) .nil))) (.cons (.int .i64 (.lit 3)) .nil))))) (.cons (.int .u8 (.ofI (.vop (.sel 1 0) (.cons (.vapp 6 (.cons (.vapp 6 (.cons (.tup .nil) (.cons (.int .u64 (.iapp 16 (.cons (.tup (.cons (.int .u8 v0_) (.cons (.int .u8 v1_) (.cons (.int .u8 v2_) (.cons (.int .u8 v3_) (.cons (.int .u8 v4_) (.cons (.int .u8 v5_) (.cons (.int .u8 v6_) (.cons (.int .u8 v7_) (.cons (.int .u8 v8_) (.cons (.int .u8 v9_) (.cons (.int .u8 (.var 10)) (.cons (.int .u8 (.var 11)) (.cons (.int .u8 (.var 12)) (.cons (.int .u8 (.var 13)) (.cons (.int .u8 (.var 14)) (.cons (.int .u8 (.var 15)) .nil))))))))))))))))) (.cons (.tup (.cons (.int .u8 (.var 16)) (.cons (.int .u8 (.lit 0)) .nil))) .nil)))) .nil))) (.cons (.int .u64 (.iapp 16 (.cons (.tup (.cons (.int .u8 v0_) (.cons (.int .u8 v1_) (.cons (.int .u8 v2_) (.cons (.int .u8 v3_) (.cons (.int .u8 v4_) (.cons (.int .u8 v5_) (.cons (.int .u8 v6_) (.cons (.int .u8 v7_) (.cons (.int .u8 v8_) (.cons (.int .u8 v9_) (.cons (.int .u8 (.var 10)) (.cons (.int .u8 (.var 11)) (.cons (.int .u8 (.var 12)) (.cons (.int .u8 (.var 13)) (.cons (.int .u8 (.var 14)) (.cons (.int .u8 (.var 15)) .nil))))))))))))))))) (.cons (.tup (.cons (.int .u8 (.var 16)) (.cons (.int .u8 (.lit 1)) .nil))) .nil)))) .nil))) (.cons (.int .i64 (.lit 4)) .nil))))) (.cons (.int .u8 (.ofI (.vop (.sel 1 0) (.cons (.vapp 6 (.cons (.vapp 6 (.cons (.tup .nil) (.cons (.int .u64 (.iapp 16 (.cons (.tup (.cons (.int .u8 v0_) (.cons (.int .u8 v1_) (.cons (.int .u8 v2_) (.cons (.int .u8 v3_) (.cons (.int .u8 v4_) (.cons (.int .u8 v5_) (.cons (.int .u8 v6_) (.cons (.int .u8 v7_) (.cons (.int .u8 v8_) (.cons (.int .u8 v9_) (.cons (.int .u8 (.var 10)) (.cons (.int .u8 (.var 11)) (.cons (.int .u8 (.var 12)) (.cons (.int .u8 (.var 13)) (.cons (.int .u8 (.var 14)) (.cons (.int .u8 (.var 15)) .nil))))))))))))))))) (.cons (.tup (.cons (.int .u8 (.var 16)) (.cons (.int .u8 (.lit 0)) .nil))) .nil)))) .nil))) (.cons (.int .u64 (.iapp 16 (.cons (.tup (.cons (.int .u8 v0_) (.cons (.int .u8 v1_) (.cons (.int .u8 v2_) (.cons (.int .u8 v3_) (.cons (.int .u8 v4_) (.cons (.int .u8 v5_) (.cons (.int .u8 v6_) (.cons (.int .u8 v7_) (.cons (.int .u8 v8_) (.cons (.int .u8 v9_) (.cons (.int .u8 (.var 10)) (.cons (.int .u8 (.var 11)) (.cons (.int .u8 (.var 12)) (.cons (.int .u8 (.var 13)) (.cons (.int .u8 (.var 14)) (.cons (.int .u8 (.var 15)) .nil))))))))))))))))) (.cons (.tup (.cons (.int .u8 (.var 16)) (.cons (.int .u8 (.lit 1)) .nil))) .nil)))) .nil))) (.cons (.int .i64 (.lit 5)) .nil))))) (.cons (.int .u8 (.ofI (.vop (.sel 1 0) (.cons (.vapp 6 (.cons (.vapp 6 (.cons (.tup .nil) (.cons (.int .u64 (.iapp 16 (.cons (.tup (.cons (.int .u8 v0_) (.cons (.int .u8 v1_) (.cons (.int .u8 v2_) (.cons (.int .u8 v3_) (.cons (.int .u8 v4_) (.cons (.int .u8 v5_) (.cons (.int .u8 v6_) (.cons (.int .u8 v7_) (.cons (.int .u8 v8_) (.cons (.int .u8 v9_) (.cons (.int .u8 (.var 10)) (.cons (.int .u8 (.var 11)) (.cons (.int .u8 (.var 12)) (.cons (.int .u8 (.var 13)) (.cons (.int .u8 (.var 14)) (.cons (.int .u8 (.var 15)) .nil))))))))))))))))) (.cons (.tup (.cons (.int .u8 (.var 16)) (.cons (.int .u8 (.lit 0)) .nil))) .nil)))) .nil))) (.cons (.int .u64 (.iapp 16 (.cons (.tup (.cons (.int .u8 v0_) (.cons (.int .u8 v1_) (.cons (.int .u8 v2_) (.cons (.int .u8 v3_) (.cons (.int .u8 v4_) (.cons (.int .u8 v5_) (.cons (.int .u8 v6_) (.cons (.int .u8 v7_) (.cons (.int .u8 v8_) (.cons (.int .u8 v9_) (.cons (.int .u8 (.var 10)) (.cons (.int .u8 (.var 11)) (.cons (.int .u8 (.var 12)) (.cons (.int .u8 (.var 13)) (.cons (.int .u8 (.var 14)) (.cons (.int .u8 (.var 15)) .nil))))))))))))))))) (.cons (.tup (.cons (.int .u8 (.var 16)) (.cons (.int .u8 (.lit 1)) .nil))) .nil)))) .nil))) (.cons (.int .i64 (.lit 6)) .nil))))) (.cons (.int .u8 (.ofI (.vop (.sel 1 0) (.cons (.vapp 6 (.cons (.vapp 6 (.cons (.tup .nil) (.cons (.int .u64 (.iapp 16 (.cons (.tup (.cons (.int .u8 v0_) (.cons (.int .u8 v1_) (.cons (.int .u8 v2_) (.cons (.int .u8 v3_) (.cons (.int .u8 v4_) (.cons (.int .u8 v5_) (.cons (.int .u8 v6_) (.cons (.int .u8 v7_) (.cons (.int .u8 v8_) (.cons (.int .u8 v9_) (.cons (.int .u8 (.var 10)) (.cons (.int .u8 (.var 11)) (.cons (.int .u8 (.var 12)) (.cons (.int .u8 (.var 13)) (.cons (.int .u8 (.var 14)) (.cons (.int .u8 (.var 15)) .nil))))))))))))))))) (.cons (.tup (.cons (.int .u8 (.var 16)) (.cons (.int .u8 (.lit 0)) .nil))) .nil)))) .nil))) (.cons (.int .u64 (.iapp 16 (.cons (.tup (.cons (.int .u8 v0_) (.cons (.int .u8 v1_) (.cons (.int .u8 v2_) (.cons (.int .u8 v3_) (.cons (.int .u8 v4_) (.cons (.int .u8 v5_) (.cons (.int .u8 v6_) (.cons (.int .u8 v7_) (.cons (.int .u8 v8_) (.cons (.int .u8 v9_) (.cons (.int .u8 (.var 10)) (.cons (.int .u8 (.var 11)) (.cons (.int .u8 (.var 12)) (.cons (.int .u8 (.var 13)) (.cons (.int .u8 (.var 14)) (.cons (.int .u8 (.var 15)) .nil))))))))))))))))) (.cons (.tup (.cons (.int .u8 (.var 16)) (.cons (.int .u8 (.lit 1)) .nil))) .nil)))) .nil))) (.cons (.int .i64 (.lit 7)) .nil))))) (.cons (.int .u8 (.ofI (.vop (.sel 1 0) (.cons (.vapp 6 (.cons (.vapp 6 (.cons (.tup .nil) (.cons (.int .u64 (.iapp 16 (.cons (.tup (.cons (.int .u8 v0_) (.cons (.int .u8 v1_) (.cons (.int .u8 v2_) (.cons (.int .u8 v3_) (.cons (.int .u8 v4_) (.cons (.int .u8 v5_) (.cons (.int .u8 v6_) (.cons (.int .u8 v7_) (.cons (.int .u8 v8_) (.cons (.int .u8 v9_) (.cons (.int .u8 (.var 10)) (.cons (.int .u8 (.var 11)) (.cons (.int .u8 (.var 12)) (.cons (.int .u8 (.var 13)) (.cons (.int .u8 (.var 14)) (.cons (.int .u8 (.var 15)) .nil))))))))))))))))) (.cons (.tup (.cons (.int .u8 (.var 16)) (.cons (.int .u8 (.lit 0)) .nil))) .nil)))) .nil))) (.cons (.int .u64 (.iapp 16 (.cons (.tup (.cons (.int .u8 v0_) (.cons (.int .u8 v1_) (.cons (.int .u8 v2_) (.cons (.int .u8 v3_) (.cons (.int .u8 v4_) (.cons (.int .u8 v5_) (.cons (.int .u8 v6_) (.cons (.int .u8 v7_) (.cons (.int .u8 v8_) (.cons (.int .u8 v9_) (.cons (.int .u8 (.var 10)) (.cons (.int .u8 (.var 11)) (.cons (.int .u8 (.var 12)) (.cons (.int .u8 (.var 13)) (.cons (.int .u8 (.var 14)) (.cons (.int .u8 (.var 15)) .nil))))))))))))))))) (.cons (.tup (.cons (.int .u8 (.var 16)) (.cons (.int .u8 (.lit 1)) .nil))) .nil)))) .nil))) (.cons (.int .i64 (.lit 8)) .nil))))) (.cons (.int .u8 (.ofI (.vop (.sel 1 0) (.cons (.vapp 6 (.cons (.vapp 6 (.cons (.tup .nil) (.cons (.int .u64 (.iapp 16 (.cons (.tup (.cons (.int .u8 v0_) (.cons (.int .u8 v1_) (.cons (.int .u8 v2_) (.cons (.int .u8 v3_) (.cons (.int .u8 v4_) (.cons (.int .u8 v5_) (.cons (.int .u8 v6_) (.cons (.int .u8 v7_) (.cons (.int .u8 v8_) (.cons (.int .u8 v9_) (.cons (.int .u8 (.var 10)) (.cons (.int .u8 (.var 11)) (.cons (.int .u8 (.var 12)) (.cons (.int .u8 (.var 13)) (.cons (.int .u8 (.var 14)) (.cons (.int .u8 (.var 15)) .nil))))))))))))))))) (.cons (.tup (.cons (.int .u8 (.var 16)) (.cons (.int .u8 (.lit 0)) .nil))) .nil)))) .nil))) (.cons (.int .u64 (.iapp 16 (.cons (.tup (.cons (.int .u8 v0_) (.cons (.int .u8 v1_) (.cons (.int .u8 v2_) (.cons (.int .u8 v3_) (.cons (.int .u8 v4_) (.cons (.int .u8 v5_) (.cons (.int .u8 v6_) (.cons (.int .u8 v7_) (.cons (.int .u8 v8_) (.cons (.int .u8 v9_) (.cons (.int .u8 (.var 10)) (.cons (.int .u8 (.var 11)) (.cons (.int .u8 (.var 12)) (.cons (.int .u8 (.var 13)) (.cons (.int .u8 (.var 14)) (.cons (.int .u8 (.var 15)) .nil))))))))))))))))) (.cons (.tup (.cons (.int .u8 (.var 16)) (.cons (.int .u8 (.lit 1)) .nil))) .nil)))) .nil))) (.cons (.int .i64 (.lit 9)) .nil))))) (.cons (.int .u8 (.ofI (.vop (.sel 1 0) (.cons (.vapp 6 (.cons (.vapp 6 (.cons (.tup .nil) (.cons (.int .u64 (.iapp 16 (.cons (.tup (.cons (.int .u8 v0_) (.cons (.int .u8 v1_) (.cons (.int .u8 v2_) (.cons (.int .u8 v3_) (.cons (.int .u8 v4_) (.cons (.int .u8 v5_) (.cons (.int .u8 v6_) (.cons (.int .u8 v7_) (.cons (.int .u8 v8_) (.cons (.int .u8 v9_) (.cons (.int .u8 (.var 10)) (.cons (.int .u8 (.var 11)) (.cons (.int .u8 (.var 12)) (.cons (.int .u8 (.var 13)) (.cons (.int .u8 (.var 14)) (.cons (.int .u8 (.var 15)) .nil))))))))))))))))) (.cons (.tup (.cons (.int .u8 (.var 16)) (.cons (.int .u8 (.lit 0)) .nil))) .nil)))) .nil))) (.cons (.int .u64 (.iapp 16 (.cons (.tup (.cons (.int .u8 v0_) (.cons (.int .u8 v1_) (.cons (.int .u8 v2_) (.cons (.int .u8 v3_) (.cons (.int .u8 v4_) (.cons (.int .u8 v5_) (.cons (.int .u8 v6_) (.cons (.int .u8 v7_) (.cons (.int .u8 v8_) (.cons (.int .u8 v9_) (.cons (.int .u8 (.var 10)) (.cons (.int .u8 (.var 11)) (.cons (.int .u8 (.var 12)) (.cons (.int .u8 (.var 13)) (.cons (.int .u8 (.var 14)) (.cons (.int .u8 (.var 15)) .nil))))))))))))))))) (.cons (.tup (.cons (.int .u8 (.var 16)) (.cons (.int .u8 (.lit 1)) .nil))) .nil)))) .nil))) (.cons (.int .i64 (.lit 10)) .nil))))) (.cons (.int .u8 (.ofI (.vop (.sel 1 0) (.cons (.vapp 6 (.cons (.vapp 6 (.cons (.tup .nil) (.cons (.int .u64 (.iapp 16 (.cons (.tup (.cons (.int .u8 v0_) (.cons (.int .u8 v1_) (.cons (.int .u8 v2_) (.cons (.int .u8 v3_) (.cons (.int .u8 v4_) (.cons (.int .u8 v5_) (.cons (.int .u8 v6_) (.cons (.int .u8 v7_) (.cons (.int .u8 v8_) (.cons (.int .u8 v9_) (.cons (.int .u8 (.var 10)) (.cons (.int .u8 (.var 11)) (.cons (.int .u8 (.var 12)) (.cons (.int .u8 (.var 13)) (.cons (.int .u8 (.var 14)) (.cons (.int .u8 (.var 15)) .nil))))))))))))))))) (.cons (.tup (.cons (.int .u8 (.var 16)) (.cons (.int .u8 (.lit 0)) .nil))) .nil)))) .nil))) (.cons (.int .u64 (.iapp 16 (.cons (.tup (.cons (.int .u8 v0_) (.cons (.int .u8 v1_) (.cons (.int .u8 v2_) (.cons (.int .u8 v3_) (.cons (.int .u8 v4_) (.cons (.int .u8 v5_) (.cons (.int .u8 v6_) (.cons (.int .u8 v7_) (.cons (.int .u8 v8_) (.cons (.int .u8 v9_) (.cons (.int .u8 (.var 10)) (.cons (.int .u8 (.var 11)) (.cons (.int .u8 (.var 12)) (.cons (.int .u8 (.var 13)) (.cons (.int .u8 (.var 14)) (.cons (.int .u8 (.var 15)) .nil))))))))))))))))) (.cons (.tup (.cons (.int .u8 (.var 16)) (.cons (.int .u8 (.lit 1)) .nil))) .nil)))) .nil))) (.cons (.int .i64 (.lit 11)) .nil))))) (.cons (.int .u8 (.ofI (.vop (.sel 1 0) (.cons (.vapp 6 (.cons (.vapp 6 (.cons (.tup .nil) (.cons (.int .u64 (.iapp 16 (.cons (.tup (.cons (.int .u8 v0_) (.cons (.int .u8 v1_) (.cons (.int .u8 v2_) (.cons (.int .u8 v3_) (.cons (.int .u8 v4_) (.cons (.int .u8 v5_) (.cons (.int .u8 v6_) (.cons (.int .u8 v7_) (.cons (.int .u8 v8_) (.cons (.int .u8 v9_) (.cons (.int .u8 (.var 10)) (.cons (.int .u8 (.var 11)) (.cons (.int .u8 (.var 12)) (.cons (.int .u8 (.var 13)) (.cons (.int .u8 (.var 14)) (.cons (.int .u8 (.var 15)) .nil))))))))))))))))) (.cons (.tup (.cons (.int .u8 (.var 16)) (.cons (.int .u8 (.lit 0)) .nil))) .nil)))) .nil))) (.cons (.int .u64 (.iapp 16 (.cons (.tup (.cons (.int .u8 v0_) (.cons (.int .u8 v1_) (.cons (.int .u8 v2_) (.cons (.int .u8 v3_) (.cons (.int .u8 v4_) (.cons (.int .u8 v5_) (.cons (.int .u8 v6_) (.cons (.int .u8 v7_) (.cons (.int .u8 v8_) (.cons (.int .u8 v9_) (.cons (.int .u8 (.var 10)) (.cons (.int .u8 (.var 11)) (.cons (.int .u8 (.var 12)) (.cons (.int .u8 (.var 13)) (.cons (.int .u8 (.var 14)) (.cons (.int .u8 (.var 15)) .nil))))))))))))))))) (.cons (.tup (.cons (.int .u8 (.var 16)) (.cons (.int .u8 (.lit 1)) .nil))) .nil)))) .nil))) (.cons (.int .i64 (.lit 12)) .nil))))) (.cons (.int .u8 (.ofI (.vop (.sel 1 0) (.cons (.vapp 6 (.cons (.vapp 6 (.cons (.tup .nil) (.cons (.int .u64 (.iapp 16 (.cons (.tup (.cons (.int .u8 v0_) (.cons (.int .u8 v1_) (.cons (.int .u8 v2_) (.cons (.int .u8 v3_) (.cons (.int .u8 v4_) (.cons (.int .u8 v5_) (.cons (.int .u8 v6_) (.cons (.int .u8 v7_) (.cons (.int .u8 v8_) (.cons (.int .u8 v9_) (.cons (.int .u8 (.var 10)) (.cons (.int .u8 (.var 11)) (.cons (.int .u8 (.var 12)) (.cons (.int .u8 (.var 13)) (.cons (.int .u8 (.var 14)) (.cons (.int .u8 (.var 15)) .nil))))))))))))))))) (.cons (.tup (.cons (.int .u8 (.var 16)) (.cons (.int .u8 (.lit 0)) .nil))) .nil)))) .nil))) (.cons (.int .u64 (.iapp 16 (.cons (.tup (.cons (.int .u8 v0_) (.cons (.int .u8 v1_) (.cons (.int .u8 v2_) (.cons (.int .u8 v3_) (.cons (.int .u8 v4_) (.cons (.int .u8 v5_) (.cons (.int .u8 v6_) (.cons (.int .u8 v7_) (.cons (.int .u8 v8_) (.cons (.int .u8 v9_) (.cons (.int .u8 (.var 10)) (.cons (.int .u8 (.var 11)) (.cons (.int .u8 (.var 12)) (.cons (.int .u8 (.var 13)) (.cons (.int .u8 (.var 14)) (.cons (.int .u8 (.var 15)) .nil))))))))))))))))) (.cons (.tup (.cons (.int .u8 (.var 16)) (.cons (.int .u8 (.lit 1)) .nil))) .nil)))) .nil))) (.cons (.int .i64 (.lit 13)) .nil))))) (.cons (.int .u8 (.ofI (.vop (.sel 1 0) (.cons (.vapp 6 (.cons (.vapp 6 (.cons (.tup .nil) (.cons (.int .u64 (.iapp 16 (.cons (.tup (.cons (.int .u8 v0_) (.cons (.int .u8 v1_) (.cons (.int .u8 v2_) (.cons (.int .u8 v3_) (.cons (.int .u8 v4_) (.cons (.int .u8 v5_) (.cons (.int .u8 v6_) (.cons (.int .u8 v7_) (.cons (.int .u8 v8_) (.cons (.int .u8 v9_) (.cons (.int .u8 (.var 10)) (.cons (.int .u8 (.var 11)) (.cons (.int .u8 (.var 12)) (.cons (.int .u8 (.var 13)) (.cons (.int .u8 (.var 14)) (.cons (.int .u8 (.var 15)) .nil))))))))))))))))) (.cons (.tup (.cons (.int .u8 (.var 16)) (.cons (.int .u8 (.lit 0)) .nil))) .nil)))) .nil))) (.cons (.int .u64 (.iapp 16 (.cons (.tup (.cons (.int .u8 v0_) (.cons (.int .u8 v1_) (.cons (.int .u8 v2_) (.cons (.int .u8 v3_) (.cons (.int .u8 v4_) (.cons (.int .u8 v5_) (.cons (.int .u8 v6_) (.cons (.int .u8 v7_) (.cons (.int .u8 v8_) (.cons (.int .u8 v9_) (.cons (.int .u8 (.var 10)) (.cons (.int .u8 (.var 11)) (.cons (.int .u8 (.var 12)) (.cons (.int .u8 (.var 13)) (.cons (.int .u8 (.var 14)) (.cons (.int .u8 (.var 15)) .nil))))))))))))))))) (.cons (.tup (.cons (.int .u8 (.var 16)) (.cons (.int .u8 (.lit 1)) .nil))) .nil)))) .nil))) (.cons (.int .i64 (.lit 14)) .nil))))) (.cons (.int .u8 (.ofI (.vop (.sel 1 0) (.cons (.vapp 6 (.cons (.vapp 6 (.cons (.tup .nil) (.cons (.int .u64 (.iapp 16 (.cons (.tup (.cons (.int .u8 v0_) (.cons (.int .u8 v1_) (.cons (.int .u8 v2_) (.cons (.int .u8 v3_) (.cons (.int .u8 v4_) (.cons (.int .u8 v5_) (.cons (.int .u8 v6_) (.cons (.int .u8 v7_) (.cons (.int .u8 v8_) (.cons (.int .u8 v9_) (.cons (.int .u8 (.var 10)) (.cons (.int .u8 (.var 11)) (.cons (.int .u8 (.var 12)) (.cons (.int .u8 (.var 13)) (.cons (.int .u8 (.var 14)) (.cons (.int .u8 (.var 15)) .nil))))))))))))))))) (.cons (.tup (.cons (.int .u8 (.var 16)) (.cons (.int .u8 (.lit 0)) .nil))) .nil)))) .nil))) (.cons (.int .u64 (.iapp 16 (.cons (.tup (.cons (.int .u8 v0_) (.cons (.int .u8 v1_) (.cons (.int .u8 v2_) (.cons (.int .u8 v3_) (.cons (.int .u8 v4_) (.cons (.int .u8 v5_) (.cons (.int .u8 v6_) (.cons (.int .u8 v7_) (.cons (.int .u8 v8_) (.cons (.int .u8 v9_) (.cons (.int .u8 (.var 10)) (.cons (.int .u8 (.var 11)) (.cons (.int .u8 (.var 12)) (.cons (.int .u8 (.var 13)) (.cons (.int .u8 (.var 14)) (.cons (.int .u8 (.var 15)) .nil))))))))))))))))) (.cons (.tup (.cons (.int .u8 (.var 16)) (.cons (.int .u8 (.lit 1)) .nil))) .nil)))) .nil))) (.cons (.int .i64 (.lit 15)) .nil))))) .nil))))))))))))))))))))))))))))))))))))))
abbrev zsc_rder : Con := ⟨13, [(.agg (.cons (.int .u8 v0_) (.cons (.int .u8 v1_) (.cons (.int .u8 v2_) (.cons (.int .u8 v3_) (.cons (.int .u8 v4_) (.cons (.int .u8 v5_) (.cons (.int .u8 v6_) (.cons (.int .u8 v7_) (.cons (.int .u8 v8_) (.cons (.int .u8 v9_) (.cons (.int .u8 (.var 10)) (.cons (.int .u8 (.var 11)) (.cons (.int .u8 (.var 12)) (.cons (.int .u8 (.var 13)) (.cons (.int .u8 (.var 14)) (.cons (.int .u8 (.var 15)) .nil))))))))))))))))), (.int .u8 (.var 16))], (an_ (.bapp 0 (.cons (.tup (.cons (.int .u8 v0_) (.cons (.int .u8 v1_) (.cons (.int .u8 v2_) (.cons (.int .u8 v3_) (.cons (.int .u8 v4_) (.cons (.int .u8 v5_) (.cons (.int .u8 v6_) (.cons (.int .u8 v7_) (.cons (.int .u8 v8_) (.cons (.int .u8 v9_) (.cons (.int .u8 (.var 10)) (.cons (.int .u8 (.var 11)) (.cons (.int .u8 (.var 12)) (.cons (.int .u8 (.var 13)) (.cons (.int .u8 (.var 14)) (.cons (.int .u8 (.var 15)) .nil))))))))))))))))) .nil)) (an_ (le_ (.lit 0) (.var 16)) (le_ (.var 16) (.lit 255)))), (.agg (.cons (.int .u8 (.iapp 18 (.cons (.tup (.cons (.int .u8 v0_) (.cons (.int .u8 v1_) (.cons (.int .u8 v2_) (.cons (.int .u8 v3_) (.cons (.int .u8 v4_) (.cons (.int .u8 v5_) (.cons (.int .u8 v6_) (.cons (.int .u8 v7_) (.cons (.int .u8 v8_) (.cons (.int .u8 v9_) (.cons (.int .u8 (.var 10)) (.cons (.int .u8 (.var 11)) (.cons (.int .u8 (.var 12)) (.cons (.int .u8 (.var 13)) (.cons (.int .u8 (.var 14)) (.cons (.int .u8 (.var 15)) .nil))))))))))))))))) (.cons (.int .u8 (.var 16)) (.cons (.int .i64 (.lit 0)) .nil))))) (.cons (.int .u8 (.iapp 18 (.cons (.tup (.cons (.int .u8 v0_) (.cons (.int .u8 v1_) (.cons (.int .u8 v2_) (.cons (.int .u8 v3_) (.cons (.int .u8 v4_) (.cons (.int .u8 v5_) (.cons (.int .u8 v6_) (.cons (.int .u8 v7_) (.cons (.int .u8 v8_) (.cons (.int .u8 v9_) (.cons (.int .u8 (.var 10)) (.cons (.int .u8 (.var 11)) (.cons (.int .u8 (.var 12)) (.cons (.int .u8 (.var 13)) (.cons (.int .u8 (.var 14)) (.cons (.int .u8 (.var 15)) .nil))))))))))))))))) (.cons (.int .u8 (.var 16)) (.cons (.int .i64 (.lit 1)) .nil))))) (.cons (.int .u8 (.iapp 18 (.cons (.tup (.cons (.int .u8 v0_) (.cons (.int .u8 v1_) (.cons (.int .u8 v2_) (.cons (.int .u8 v3_) (.cons (.int .u8 v4_) (.cons (.int .u8 v5_) (.cons (.int .u8 v6_) (.cons (.int .u8 v7_) (.cons (.int .u8 v8_) (.cons (.int .u8 v9_) (.cons (.int .u8 (.var 10)) (.cons (.int .u8 (.var 11)) (.cons (.int .u8 (.var 12)) (.cons (.int .u8 (.var 13)) (.cons (.int .u8 (.var 14)) (.cons (.int .u8 (.var 15)) .nil))))))))))))))))) (.cons (.int .u8 (.var 16)) (.cons (.int .i64 (.lit 2)) .nil))))) (.cons (.int .u8 (.iapp 18 (.cons (.tup (.cons (.int .u8 v0_) (.cons (.int .u8 v1_) (.cons (.int .u8 v2_) (.cons (.int .u8 v3_) (.cons (.int .u8 v4_) (.cons (.int .u8 v5_) (.cons (.int .u8 v6_) (.cons (.int .u8 v7_) (.cons (.int .u8 v8_) (.cons (.int .u8 v9_) (.cons (.int .u8 (.var 10)) (.cons (.int .u8 (.var 11)) (.cons (.int .u8 (.var 12)) (.cons (.int .u8 (.var 13)) (.cons (.int .u8 (.var 14)) (.cons (.int .u8 (.var 15)) .nil))))))))))))))))) (.cons (.int .u8 (.var 16)) (.cons (.int .i64 (.lit 3)) .nil))))) (.cons (.int .u8 (.iapp 18 (.cons (.tup (.cons (.int .u8 v0_) (.cons (.int .u8 v1_) (.cons (.int .u8 v2_) (.cons (.int .u8 v3_) (.cons (.int .u8 v4_) (.cons (.int .u8 v5_) (.cons (.int .u8 v6_) (.cons (.int .u8 v7_) (.cons (.int .u8 v8_) (.cons (.int .u8 v9_) (.cons (.int .u8 (.var 10)) (.cons (.int .u8 (.var 11)) (.cons (.int .u8 (.var 12)) (.cons (.int .u8 (.var 13)) (.cons (.int .u8 (.var 14)) (.cons (.int .u8 (.var 15)) .nil))))))))))))))))) (.cons (.int .u8 (.var 16)) (.cons (.int .i64 (.lit 4)) .nil))))) (.cons (.int .u8 (.iapp 18 (.cons (.tup (.cons (.int .u8 v0_) (.cons (.int .u8 v1_) (.cons (.int .u8 v2_) (.cons (.int .u8 v3_) (.cons (.int .u8 v4_) (.cons (.int .u8 v5_) (.cons (.int .u8 v6_) (.cons (.int .u8 v7_) (.cons (.int .u8 v8_) (.cons (.int .u8 v9_) (.cons (.int .u8 (.var 10)) (.cons (.int .u8 (.var 11)) (.cons (.int .u8 (.var 12)) (.cons (.int .u8 (.var 13)) (.cons (.int .u8 (.var 14)) (.cons (.int .u8 (.var 15)) .nil))))))))))))))))) (.cons (.int .u8 (.var 16)) (.cons (.int .i64 (.lit 5)) .nil))))) (.cons (.int .u8 (.iapp 18 (.cons (.tup (.cons (.int .u8 v0_) (.cons (.int .u8 v1_) (.cons (.int .u8 v2_) (.cons (.int .u8 v3_) (.cons (.int .u8 v4_) (.cons (.int .u8 v5_) (.cons (.int .u8 v6_) (.cons (.int .u8 v7_) (.cons (.int .u8 v8_) (.cons (.int .u8 v9_) (.cons (.int .u8 (.var 10)) (.cons (.int .u8 (.var 11)) (.cons (.int .u8 (.var 12)) (.cons (.int .u8 (.var 13)) (.cons (.int .u8 (.var 14)) (.cons (.int .u8 (.var 15)) .nil))))))))))))))))) (.cons (.int .u8 (.var 16)) (.cons (.int .i64 (.lit 6)) .nil))))) (.cons (.int .u8 (.iapp 18 (.cons (.tup (.cons (.int .u8 v0_) (.cons (.int .u8 v1_) (.cons (.int .u8 v2_) (.cons (.int .u8 v3_) (.cons (.int .u8 v4_) (.cons (.int .u8 v5_) (.cons (.int .u8 v6_) (.cons (.int .u8 v7_) (.cons (.int .u8 v8_) (.cons (.int .u8 v9_) (.cons (.int .u8 (.var 10)) (.cons (.int .u8 (.var 11)) (.cons (.int .u8 (.var 12)) (.cons (.int .u8 (.var 13)) (.cons (.int .u8 (.var 14)) (.cons (.int .u8 (.var 15)) .nil))))))))))))))))) (.cons (.int .u8 (.var 16)) (.cons (.int .i64 (.lit 7)) .nil))))) (.cons (.int .u8 (.iapp 18 (.cons (.tup (.cons (.int .u8 v0_) (.cons (.int .u8 v1_) (.cons (.int .u8 v2_) (.cons (.int .u8 v3_) (.cons (.int .u8 v4_) (.cons (.int .u8 v5_) (.cons (.int .u8 v6_) (.cons (.int .u8 v7_) (.cons (.int .u8 v8_) (.cons (.int .u8 v9_) (.cons (.int .u8 (.var 10)) (.cons (.int .u8 (.var 11)) (.cons (.int .u8 (.var 12)) (.cons (.int .u8 (.var 13)) (.cons (.int .u8 (.var 14)) (.cons (.int .u8 (.var 15)) .nil))))))))))))))))) (.cons (.int .u8 (.var 16)) (.cons (.int .i64 (.lit 8)) .nil))))) (.cons (.int .u8 (.iapp 18 (.cons (.tup (.cons (.int .u8 v0_) (.cons (.int .u8 v1_) (.cons (.int .u8 v2_) (.cons (.int .u8 v3_) (.cons (.int .u8 v4_) (.cons (.int .u8 v5_) (.cons (.int .u8 v6_) (.cons (.int .u8 v7_) (.cons (.int .u8 v8_) (.cons (.int .u8 v9_) (.cons (.int .u8 (.var 10)) (.cons (.int .u8 (.var 11)) (.cons (.int .u8 (.var 12)) (.cons (.int .u8 (.var 13)) (.cons (.int .u8 (.var 14)) (.cons (.int .u8 (.var 15)) .nil))))))))))))))))) (.cons (.int .u8 (.var 16)) (.cons (.int .i64 (.lit 9)) .nil))))) (.cons (.int .u8 (.iapp 18 (.cons (.tup (.cons (.int .u8 v0_) (.cons (.int .u8 v1_) (.cons (.int .u8 v2_) (.cons (.int .u8 v3_) (.cons (.int .u8 v4_) (.cons (.int .u8 v5_) (.cons (.int .u8 v6_) (.cons (.int .u8 v7_) (.cons (.int .u8 v8_) (.cons (.int .u8 v9_) (.cons (.int .u8 (.var 10)) (.cons (.int .u8 (.var 11)) (.cons (.int .u8 (.var 12)) (.cons (.int .u8 (.var 13)) (.cons (.int .u8 (.var 14)) (.cons (.int .u8 (.var 15)) .nil))))))))))))))))) (.cons (.int .u8 (.var 16)) (.cons (.int .i64 (.lit 10)) .nil))))) (.cons (.int .u8 (.iapp 18 (.cons (.tup (.cons (.int .u8 v0_) (.cons (.int .u8 v1_) (.cons (.int .u8 v2_) (.cons (.int .u8 v3_) (.cons (.int .u8 v4_) (.cons (.int .u8 v5_) (.cons (.int .u8 v6_) (.cons (.int .u8 v7_) (.cons (.int .u8 v8_) (.cons (.int .u8 v9_) (.cons (.int .u8 (.var 10)) (.cons (.int .u8 (.var 11)) (.cons (.int .u8 (.var 12)) (.cons (.int .u8 (.var 13)) (.cons (.int .u8 (.var 14)) (.cons (.int .u8 (.var 15)) .nil))))))))))))))))) (.cons (.int .u8 (.var 16)) (.cons (.int .i64 (.lit 11)) .nil))))) (.cons (.int .u8 (.iapp 18 (.cons (.tup (.cons (.int .u8 v0_) (.cons (.int .u8 v1_) (.cons (.int .u8 v2_) (.cons (.int .u8 v3_) (.cons (.int .u8 v4_) (.cons (.int .u8 v5_) (.cons (.int .u8 v6_) (.cons (.int .u8 v7_) (.cons (.int .u8 v8_) (.cons (.int .u8 v9_) (.cons (.int .u8 (.var 10)) (.cons (.int .u8 (.var 11)) (.cons (.int .u8 (.var 12)) (.cons (.int .u8 (.var 13)) (.cons (.int .u8 (.var 14)) (.cons (.int .u8 (.var 15)) .nil))))))))))))))))) (.cons (.int .u8 (.var 16)) (.cons (.int .i64 (.lit 12)) .nil))))) (.cons (.int .u8 (.iapp 18 (.cons (.tup (.cons (.int .u8 v0_) (.cons (.int .u8 v1_) (.cons (.int .u8 v2_) (.cons (.int .u8 v3_) (.cons (.int .u8 v4_) (.cons (.int .u8 v5_) (.cons (.int .u8 v6_) (.cons (.int .u8 v7_) (.cons (.int .u8 v8_) (.cons (.int .u8 v9_) (.cons (.int .u8 (.var 10)) (.cons (.int .u8 (.var 11)) (.cons (.int .u8 (.var 12)) (.cons (.int .u8 (.var 13)) (.cons (.int .u8 (.var 14)) (.cons (.int .u8 (.var 15)) .nil))))))))))))))))) (.cons (.int .u8 (.var 16)) (.cons (.int .i64 (.lit 13)) .nil))))) (.cons (.int .u8 (.iapp 18 (.cons (.tup (.cons (.int .u8 v0_) (.cons (.int .u8 v1_) (.cons (.int .u8 v2_) (.cons (.int .u8 v3_) (.cons (.int .u8 v4_) (.cons (.int .u8 v5_) (.cons (.int .u8 v6_) (.cons (.int .u8 v7_) (.cons (.int .u8 v8_) (.cons (.int .u8 v9_) (.cons (.int .u8 (.var 10)) (.cons (.int .u8 (.var 11)) (.cons (.int .u8 (.var 12)) (.cons (.int .u8 (.var 13)) (.cons (.int .u8 (.var 14)) (.cons (.int .u8 (.var 15)) .nil))))))))))))))))) (.cons (.int .u8 (.var 16)) (.cons (.int .i64 (.lit 14)) .nil))))) (.cons (.int .u8 (.iapp 18 (.cons (.tup (.cons (.int .u8 v0_) (.cons (.int .u8 v1_) (.cons (.int .u8 v2_) (.cons (.int .u8 v3_) (.cons (.int .u8 v4_) (.cons (.int .u8 v5_) (.cons (.int .u8 v6_) (.cons (.int .u8 v7_) (.cons (.int .u8 v8_) (.cons (.int .u8 v9_) (.cons (.int .u8 (.var 10)) (.cons (.int .u8 (.var 11)) (.cons (.int .u8 (.var 12)) (.cons (.int .u8 (.var 13)) (.cons (.int .u8 (.var 14)) (.cons (.int .u8 (.var 15)) .nil))))))))))))))))) (.cons (.int .u8 (.var 16)) (.cons (.int .i64 (.lit 15)) .nil))))) .nil))))))))))))))))), ⟨17, 0, 0, 0⟩, none⟩
theorem rder_w : walk Try.prog 102 ⟨[zpc_rput8, zqc_rsum23], syG, [], [], []⟩ [] .v zsc_rder zsc_rder.n 3000 = some rder_tree := by kernel_rfl
theorem rder_h (k0 : Int) (k1 : Int) (k2 : Int) (k3 : Int) (k4 : Int) (k5 : Int) (k6 : Int) (k7 : Int) (k8 : Int) (k9 : Int) (k10 : Int) (k11 : Int) (k12 : Int) (k13 : Int) (k14 : Int) (k15 : Int) (u : Int) (hc : holds (zsE [k0, k1, k2, k3, k4, k5, k6, k7, k8, k9, k10, k11, k12, k13, k14, k15, u] [] [] []) (an_ (.bapp 0 (.cons (.tup (.cons (.int .u8 v0_) (.cons (.int .u8 v1_) (.cons (.int .u8 v2_) (.cons (.int .u8 v3_) (.cons (.int .u8 v4_) (.cons (.int .u8 v5_) (.cons (.int .u8 v6_) (.cons (.int .u8 v7_) (.cons (.int .u8 v8_) (.cons (.int .u8 v9_) (.cons (.int .u8 (.var 10)) (.cons (.int .u8 (.var 11)) (.cons (.int .u8 (.var 12)) (.cons (.int .u8 (.var 13)) (.cons (.int .u8 (.var 14)) (.cons (.int .u8 (.var 15)) .nil))))))))))))))))) .nil)) (an_ (le_ (.lit 0) (.var 16)) (le_ (.var 16) (.lit 255))))) (hty : patsTyp (zsE [k0, k1, k2, k3, k4, k5, k6, k7, k8, k9, k10, k11, k12, k13, k14, k15, u] [] [] []) [(.agg (.cons (.int .u8 v0_) (.cons (.int .u8 v1_) (.cons (.int .u8 v2_) (.cons (.int .u8 v3_) (.cons (.int .u8 v4_) (.cons (.int .u8 v5_) (.cons (.int .u8 v6_) (.cons (.int .u8 v7_) (.cons (.int .u8 v8_) (.cons (.int .u8 v9_) (.cons (.int .u8 (.var 10)) (.cons (.int .u8 (.var 11)) (.cons (.int .u8 (.var 12)) (.cons (.int .u8 (.var 13)) (.cons (.int .u8 (.var 14)) (.cons (.int .u8 (.var 15)) .nil))))))))))))))))), (.int .u8 (.var 16))]) : rder_tree.holds (fun v_ => v_ = denV (zsE [k0, k1, k2, k3, k4, k5, k6, k7, k8, k9, k10, k11, k12, k13, k14, k15, u] [] [] []) b0 (.agg (.cons (.int .u8 (.iapp 18 (.cons (.tup (.cons (.int .u8 v0_) (.cons (.int .u8 v1_) (.cons (.int .u8 v2_) (.cons (.int .u8 v3_) (.cons (.int .u8 v4_) (.cons (.int .u8 v5_) (.cons (.int .u8 v6_) (.cons (.int .u8 v7_) (.cons (.int .u8 v8_) (.cons (.int .u8 v9_) (.cons (.int .u8 (.var 10)) (.cons (.int .u8 (.var 11)) (.cons (.int .u8 (.var 12)) (.cons (.int .u8 (.var 13)) (.cons (.int .u8 (.var 14)) (.cons (.int .u8 (.var 15)) .nil))))))))))))))))) (.cons (.int .u8 (.var 16)) (.cons (.int .i64 (.lit 0)) .nil))))) (.cons (.int .u8 (.iapp 18 (.cons (.tup (.cons (.int .u8 v0_) (.cons (.int .u8 v1_) (.cons (.int .u8 v2_) (.cons (.int .u8 v3_) (.cons (.int .u8 v4_) (.cons (.int .u8 v5_) (.cons (.int .u8 v6_) (.cons (.int .u8 v7_) (.cons (.int .u8 v8_) (.cons (.int .u8 v9_) (.cons (.int .u8 (.var 10)) (.cons (.int .u8 (.var 11)) (.cons (.int .u8 (.var 12)) (.cons (.int .u8 (.var 13)) (.cons (.int .u8 (.var 14)) (.cons (.int .u8 (.var 15)) .nil))))))))))))))))) (.cons (.int .u8 (.var 16)) (.cons (.int .i64 (.lit 1)) .nil))))) (.cons (.int .u8 (.iapp 18 (.cons (.tup (.cons (.int .u8 v0_) (.cons (.int .u8 v1_) (.cons (.int .u8 v2_) (.cons (.int .u8 v3_) (.cons (.int .u8 v4_) (.cons (.int .u8 v5_) (.cons (.int .u8 v6_) (.cons (.int .u8 v7_) (.cons (.int .u8 v8_) (.cons (.int .u8 v9_) (.cons (.int .u8 (.var 10)) (.cons (.int .u8 (.var 11)) (.cons (.int .u8 (.var 12)) (.cons (.int .u8 (.var 13)) (.cons (.int .u8 (.var 14)) (.cons (.int .u8 (.var 15)) .nil))))))))))))))))) (.cons (.int .u8 (.var 16)) (.cons (.int .i64 (.lit 2)) .nil))))) (.cons (.int .u8 (.iapp 18 (.cons (.tup (.cons (.int .u8 v0_) (.cons (.int .u8 v1_) (.cons (.int .u8 v2_) (.cons (.int .u8 v3_) (.cons (.int .u8 v4_) (.cons (.int .u8 v5_) (.cons (.int .u8 v6_) (.cons (.int .u8 v7_) (.cons (.int .u8 v8_) (.cons (.int .u8 v9_) (.cons (.int .u8 (.var 10)) (.cons (.int .u8 (.var 11)) (.cons (.int .u8 (.var 12)) (.cons (.int .u8 (.var 13)) (.cons (.int .u8 (.var 14)) (.cons (.int .u8 (.var 15)) .nil))))))))))))))))) (.cons (.int .u8 (.var 16)) (.cons (.int .i64 (.lit 3)) .nil))))) (.cons (.int .u8 (.iapp 18 (.cons (.tup (.cons (.int .u8 v0_) (.cons (.int .u8 v1_) (.cons (.int .u8 v2_) (.cons (.int .u8 v3_) (.cons (.int .u8 v4_) (.cons (.int .u8 v5_) (.cons (.int .u8 v6_) (.cons (.int .u8 v7_) (.cons (.int .u8 v8_) (.cons (.int .u8 v9_) (.cons (.int .u8 (.var 10)) (.cons (.int .u8 (.var 11)) (.cons (.int .u8 (.var 12)) (.cons (.int .u8 (.var 13)) (.cons (.int .u8 (.var 14)) (.cons (.int .u8 (.var 15)) .nil))))))))))))))))) (.cons (.int .u8 (.var 16)) (.cons (.int .i64 (.lit 4)) .nil))))) (.cons (.int .u8 (.iapp 18 (.cons (.tup (.cons (.int .u8 v0_) (.cons (.int .u8 v1_) (.cons (.int .u8 v2_) (.cons (.int .u8 v3_) (.cons (.int .u8 v4_) (.cons (.int .u8 v5_) (.cons (.int .u8 v6_) (.cons (.int .u8 v7_) (.cons (.int .u8 v8_) (.cons (.int .u8 v9_) (.cons (.int .u8 (.var 10)) (.cons (.int .u8 (.var 11)) (.cons (.int .u8 (.var 12)) (.cons (.int .u8 (.var 13)) (.cons (.int .u8 (.var 14)) (.cons (.int .u8 (.var 15)) .nil))))))))))))))))) (.cons (.int .u8 (.var 16)) (.cons (.int .i64 (.lit 5)) .nil))))) (.cons (.int .u8 (.iapp 18 (.cons (.tup (.cons (.int .u8 v0_) (.cons (.int .u8 v1_) (.cons (.int .u8 v2_) (.cons (.int .u8 v3_) (.cons (.int .u8 v4_) (.cons (.int .u8 v5_) (.cons (.int .u8 v6_) (.cons (.int .u8 v7_) (.cons (.int .u8 v8_) (.cons (.int .u8 v9_) (.cons (.int .u8 (.var 10)) (.cons (.int .u8 (.var 11)) (.cons (.int .u8 (.var 12)) (.cons (.int .u8 (.var 13)) (.cons (.int .u8 (.var 14)) (.cons (.int .u8 (.var 15)) .nil))))))))))))))))) (.cons (.int .u8 (.var 16)) (.cons (.int .i64 (.lit 6)) .nil))))) (.cons (.int .u8 (.iapp 18 (.cons (.tup (.cons (.int .u8 v0_) (.cons (.int .u8 v1_) (.cons (.int .u8 v2_) (.cons (.int .u8 v3_) (.cons (.int .u8 v4_) (.cons (.int .u8 v5_) (.cons (.int .u8 v6_) (.cons (.int .u8 v7_) (.cons (.int .u8 v8_) (.cons (.int .u8 v9_) (.cons (.int .u8 (.var 10)) (.cons (.int .u8 (.var 11)) (.cons (.int .u8 (.var 12)) (.cons (.int .u8 (.var 13)) (.cons (.int .u8 (.var 14)) (.cons (.int .u8 (.var 15)) .nil))))))))))))))))) (.cons (.int .u8 (.var 16)) (.cons (.int .i64 (.lit 7)) .nil))))) (.cons (.int .u8 (.iapp 18 (.cons (.tup (.cons (.int .u8 v0_) (.cons (.int .u8 v1_) (.cons (.int .u8 v2_) (.cons (.int .u8 v3_) (.cons (.int .u8 v4_) (.cons (.int .u8 v5_) (.cons (.int .u8 v6_) (.cons (.int .u8 v7_) (.cons (.int .u8 v8_) (.cons (.int .u8 v9_) (.cons (.int .u8 (.var 10)) (.cons (.int .u8 (.var 11)) (.cons (.int .u8 (.var 12)) (.cons (.int .u8 (.var 13)) (.cons (.int .u8 (.var 14)) (.cons (.int .u8 (.var 15)) .nil))))))))))))))))) (.cons (.int .u8 (.var 16)) (.cons (.int .i64 (.lit 8)) .nil))))) (.cons (.int .u8 (.iapp 18 (.cons (.tup (.cons (.int .u8 v0_) (.cons (.int .u8 v1_) (.cons (.int .u8 v2_) (.cons (.int .u8 v3_) (.cons (.int .u8 v4_) (.cons (.int .u8 v5_) (.cons (.int .u8 v6_) (.cons (.int .u8 v7_) (.cons (.int .u8 v8_) (.cons (.int .u8 v9_) (.cons (.int .u8 (.var 10)) (.cons (.int .u8 (.var 11)) (.cons (.int .u8 (.var 12)) (.cons (.int .u8 (.var 13)) (.cons (.int .u8 (.var 14)) (.cons (.int .u8 (.var 15)) .nil))))))))))))))))) (.cons (.int .u8 (.var 16)) (.cons (.int .i64 (.lit 9)) .nil))))) (.cons (.int .u8 (.iapp 18 (.cons (.tup (.cons (.int .u8 v0_) (.cons (.int .u8 v1_) (.cons (.int .u8 v2_) (.cons (.int .u8 v3_) (.cons (.int .u8 v4_) (.cons (.int .u8 v5_) (.cons (.int .u8 v6_) (.cons (.int .u8 v7_) (.cons (.int .u8 v8_) (.cons (.int .u8 v9_) (.cons (.int .u8 (.var 10)) (.cons (.int .u8 (.var 11)) (.cons (.int .u8 (.var 12)) (.cons (.int .u8 (.var 13)) (.cons (.int .u8 (.var 14)) (.cons (.int .u8 (.var 15)) .nil))))))))))))))))) (.cons (.int .u8 (.var 16)) (.cons (.int .i64 (.lit 10)) .nil))))) (.cons (.int .u8 (.iapp 18 (.cons (.tup (.cons (.int .u8 v0_) (.cons (.int .u8 v1_) (.cons (.int .u8 v2_) (.cons (.int .u8 v3_) (.cons (.int .u8 v4_) (.cons (.int .u8 v5_) (.cons (.int .u8 v6_) (.cons (.int .u8 v7_) (.cons (.int .u8 v8_) (.cons (.int .u8 v9_) (.cons (.int .u8 (.var 10)) (.cons (.int .u8 (.var 11)) (.cons (.int .u8 (.var 12)) (.cons (.int .u8 (.var 13)) (.cons (.int .u8 (.var 14)) (.cons (.int .u8 (.var 15)) .nil))))))))))))))))) (.cons (.int .u8 (.var 16)) (.cons (.int .i64 (.lit 11)) .nil))))) (.cons (.int .u8 (.iapp 18 (.cons (.tup (.cons (.int .u8 v0_) (.cons (.int .u8 v1_) (.cons (.int .u8 v2_) (.cons (.int .u8 v3_) (.cons (.int .u8 v4_) (.cons (.int .u8 v5_) (.cons (.int .u8 v6_) (.cons (.int .u8 v7_) (.cons (.int .u8 v8_) (.cons (.int .u8 v9_) (.cons (.int .u8 (.var 10)) (.cons (.int .u8 (.var 11)) (.cons (.int .u8 (.var 12)) (.cons (.int .u8 (.var 13)) (.cons (.int .u8 (.var 14)) (.cons (.int .u8 (.var 15)) .nil))))))))))))))))) (.cons (.int .u8 (.var 16)) (.cons (.int .i64 (.lit 12)) .nil))))) (.cons (.int .u8 (.iapp 18 (.cons (.tup (.cons (.int .u8 v0_) (.cons (.int .u8 v1_) (.cons (.int .u8 v2_) (.cons (.int .u8 v3_) (.cons (.int .u8 v4_) (.cons (.int .u8 v5_) (.cons (.int .u8 v6_) (.cons (.int .u8 v7_) (.cons (.int .u8 v8_) (.cons (.int .u8 v9_) (.cons (.int .u8 (.var 10)) (.cons (.int .u8 (.var 11)) (.cons (.int .u8 (.var 12)) (.cons (.int .u8 (.var 13)) (.cons (.int .u8 (.var 14)) (.cons (.int .u8 (.var 15)) .nil))))))))))))))))) (.cons (.int .u8 (.var 16)) (.cons (.int .i64 (.lit 13)) .nil))))) (.cons (.int .u8 (.iapp 18 (.cons (.tup (.cons (.int .u8 v0_) (.cons (.int .u8 v1_) (.cons (.int .u8 v2_) (.cons (.int .u8 v3_) (.cons (.int .u8 v4_) (.cons (.int .u8 v5_) (.cons (.int .u8 v6_) (.cons (.int .u8 v7_) (.cons (.int .u8 v8_) (.cons (.int .u8 v9_) (.cons (.int .u8 (.var 10)) (.cons (.int .u8 (.var 11)) (.cons (.int .u8 (.var 12)) (.cons (.int .u8 (.var 13)) (.cons (.int .u8 (.var 14)) (.cons (.int .u8 (.var 15)) .nil))))))))))))))))) (.cons (.int .u8 (.var 16)) (.cons (.int .i64 (.lit 14)) .nil))))) (.cons (.int .u8 (.iapp 18 (.cons (.tup (.cons (.int .u8 v0_) (.cons (.int .u8 v1_) (.cons (.int .u8 v2_) (.cons (.int .u8 v3_) (.cons (.int .u8 v4_) (.cons (.int .u8 v5_) (.cons (.int .u8 v6_) (.cons (.int .u8 v7_) (.cons (.int .u8 v8_) (.cons (.int .u8 v9_) (.cons (.int .u8 (.var 10)) (.cons (.int .u8 (.var 11)) (.cons (.int .u8 (.var 12)) (.cons (.int .u8 (.var 13)) (.cons (.int .u8 (.var 14)) (.cons (.int .u8 (.var 15)) .nil))))))))))))))))) (.cons (.int .u8 (.var 16)) (.cons (.int .i64 (.lit 15)) .nil))))) .nil)))))))))))))))))) (zsE [k0, k1, k2, k3, k4, k5, k6, k7, k8, k9, k10, k11, k12, k13, k14, k15, u] [] [] []) := by
  simp only [Tree.holds, Sy.holds, AllN, Env.more, zsE, List.cons_append, List.nil_append, List.append_nil, denV, denI, denB, denL, I2.den, VOp.den, List.getD_cons_zero, List.getD_cons_succ, Cst.den, syso, syse, syio, sybo, zsb_okr, List.map_nil, List.map_cons, B2.ofInts, B2.denI, B2.denB, if_true, Bool.false_eq_true, if_false, Nat.div_one, Nat.mul_one, Nat.add_zero, holds] at hc
  simp only [patsTyp, patTyp, patTypL, zsE, denV, denL, List.getD_cons_zero, List.getD_cons_succ, and_true, true_and] at hty
  unfold rder_tree
  simp only [Tree.holds, Sy.holds, AllN, Env.more, zsE, List.cons_append, List.nil_append, List.append_nil, denV, denI, denB, denL, I2.den, VOp.den, List.getD_cons_zero, List.getD_cons_succ, Cst.den, syso, syse, syio, sybo, zsi_sip, zsi_dv, zsb_okr, zsv_p8, List.map_nil, List.map_cons, B2.ofInts, B2.denI, B2.denB, if_true, Bool.false_eq_true, if_false, Nat.div_one, Nat.mul_one, Nat.add_zero]
  generalize hKT : Value.tuple #[Value.int .u8 k0, Value.int .u8 k1, Value.int .u8 k2, Value.int .u8 k3, Value.int .u8 k4, Value.int .u8 k5, Value.int .u8 k6, Value.int .u8 k7, Value.int .u8 k8, Value.int .u8 k9, Value.int .u8 k10, Value.int .u8 k11, Value.int .u8 k12, Value.int .u8 k13, Value.int .u8 k14, Value.int .u8 k15] = KT at hc ⊢
  have o0 : okR [Value.int .u8 u, Value.int .u8 0] = true := okR_isB (.cons hc.2.1 hc.2.2 (.cons (by decide) (by decide) .nil))
  have o1 : okR [Value.int .u8 u, Value.int .u8 1] = true := okR_isB (.cons hc.2.1 hc.2.2 (.cons (by decide) (by decide) .nil))
  have n0 := numB_i64 (sip_rng (byL (Sy.rows KT)) (byL [Value.int .u8 u, Value.int .u8 0])).1 (sip_rng _ _).2
  have n1 := numB_i64 (sip_rng (byL (Sy.rows KT)) (byL [Value.int .u8 u, Value.int .u8 1])).1 (sip_rng _ _).2
  have r0 := sip_rng (byL (Sy.rows KT)) (byL [Value.int .u8 u, Value.int .u8 0])
  have r1 := sip_rng (byL (Sy.rows KT)) (byL [Value.int .u8 u, Value.int .u8 1])
  simp only [rows_arr, rows_put, List.nil_append, n0, n1, nBdrop, List.append_nil, nB16, numB_len, List.length_nil]
  refine ⟨?_, fun h0 => ?_⟩
  ·
   first
   | exact ⟨hc.1, o0, by simp⟩
   | exact ⟨hc.1, o1, by simp⟩
   | decide
   | (have w0 := wr_i64 (sipS (byL (Sy.rows KT)) (byL [Value.int .u8 u, Value.int .u8 0]))
      have w1 := wr_i64 (sipS (byL (Sy.rows KT)) (byL [Value.int .u8 u, Value.int .u8 1]))
      first
      | omega
      | exact ⟨by decide, by omega, by omega⟩)
  ·
   refine ⟨?_, fun h1 => ?_⟩
   ·
    first
    | exact ⟨hc.1, o0, by simp⟩
    | exact ⟨hc.1, o1, by simp⟩
    | decide
    | (have w0 := wr_i64 (sipS (byL (Sy.rows KT)) (byL [Value.int .u8 u, Value.int .u8 0]))
       have w1 := wr_i64 (sipS (byL (Sy.rows KT)) (byL [Value.int .u8 u, Value.int .u8 1]))
       first
       | omega
       | exact ⟨by decide, by omega, by omega⟩)
   ·
    refine ⟨?_, fun h2 => ?_⟩
    ·
     first
     | exact ⟨hc.1, o0, by simp⟩
     | exact ⟨hc.1, o1, by simp⟩
     | decide
     | (have w0 := wr_i64 (sipS (byL (Sy.rows KT)) (byL [Value.int .u8 u, Value.int .u8 0]))
        have w1 := wr_i64 (sipS (byL (Sy.rows KT)) (byL [Value.int .u8 u, Value.int .u8 1]))
        first
        | omega
        | exact ⟨by decide, by omega, by omega⟩)
    ·
     refine ⟨?_, fun h3 => ?_⟩
     ·
      first
      | exact ⟨hc.1, o0, by simp⟩
      | exact ⟨hc.1, o1, by simp⟩
      | decide
      | (have w0 := wr_i64 (sipS (byL (Sy.rows KT)) (byL [Value.int .u8 u, Value.int .u8 0]))
         have w1 := wr_i64 (sipS (byL (Sy.rows KT)) (byL [Value.int .u8 u, Value.int .u8 1]))
         first
         | omega
         | exact ⟨by decide, by omega, by omega⟩)
     ·
      refine ⟨?_, fun h4 => ?_⟩
      ·
       first
       | exact ⟨hc.1, o0, by simp⟩
       | exact ⟨hc.1, o1, by simp⟩
       | decide
       | (have w0 := wr_i64 (sipS (byL (Sy.rows KT)) (byL [Value.int .u8 u, Value.int .u8 0]))
          have w1 := wr_i64 (sipS (byL (Sy.rows KT)) (byL [Value.int .u8 u, Value.int .u8 1]))
          first
          | omega
          | exact ⟨by decide, by omega, by omega⟩)
      ·
       refine ⟨?_, fun h5 => ?_⟩
       ·
        first
        | exact ⟨hc.1, o0, by simp⟩
        | exact ⟨hc.1, o1, by simp⟩
        | decide
        | (have w0 := wr_i64 (sipS (byL (Sy.rows KT)) (byL [Value.int .u8 u, Value.int .u8 0]))
           have w1 := wr_i64 (sipS (byL (Sy.rows KT)) (byL [Value.int .u8 u, Value.int .u8 1]))
           first
           | omega
           | exact ⟨by decide, by omega, by omega⟩)
       ·
        refine ⟨?_, fun h6 => ?_⟩
        ·
         first
         | exact ⟨hc.1, o0, by simp⟩
         | exact ⟨hc.1, o1, by simp⟩
         | decide
         | (have w0 := wr_i64 (sipS (byL (Sy.rows KT)) (byL [Value.int .u8 u, Value.int .u8 0]))
            have w1 := wr_i64 (sipS (byL (Sy.rows KT)) (byL [Value.int .u8 u, Value.int .u8 1]))
            first
            | omega
            | exact ⟨by decide, by omega, by omega⟩)
        ·
         refine ⟨?_, fun h7 => ?_⟩
         ·
          first
          | exact ⟨hc.1, o0, by simp⟩
          | exact ⟨hc.1, o1, by simp⟩
          | decide
          | (have w0 := wr_i64 (sipS (byL (Sy.rows KT)) (byL [Value.int .u8 u, Value.int .u8 0]))
             have w1 := wr_i64 (sipS (byL (Sy.rows KT)) (byL [Value.int .u8 u, Value.int .u8 1]))
             first
             | omega
             | exact ⟨by decide, by omega, by omega⟩)
         ·
          refine ⟨?_, fun h8 => ?_⟩
          ·
           first
           | exact ⟨hc.1, o0, by simp⟩
           | exact ⟨hc.1, o1, by simp⟩
           | decide
           | (have w0 := wr_i64 (sipS (byL (Sy.rows KT)) (byL [Value.int .u8 u, Value.int .u8 0]))
              have w1 := wr_i64 (sipS (byL (Sy.rows KT)) (byL [Value.int .u8 u, Value.int .u8 1]))
              first
              | omega
              | exact ⟨by decide, by omega, by omega⟩)
          ·
           refine ⟨?_, fun h9 => ?_⟩
           ·
            first
            | exact ⟨hc.1, o0, by simp⟩
            | exact ⟨hc.1, o1, by simp⟩
            | decide
            | (have w0 := wr_i64 (sipS (byL (Sy.rows KT)) (byL [Value.int .u8 u, Value.int .u8 0]))
               have w1 := wr_i64 (sipS (byL (Sy.rows KT)) (byL [Value.int .u8 u, Value.int .u8 1]))
               first
               | omega
               | exact ⟨by decide, by omega, by omega⟩)
           ·
            refine ⟨?_, fun h10 => ?_⟩
            ·
             first
             | exact ⟨hc.1, o0, by simp⟩
             | exact ⟨hc.1, o1, by simp⟩
             | decide
             | (have w0 := wr_i64 (sipS (byL (Sy.rows KT)) (byL [Value.int .u8 u, Value.int .u8 0]))
                have w1 := wr_i64 (sipS (byL (Sy.rows KT)) (byL [Value.int .u8 u, Value.int .u8 1]))
                first
                | omega
                | exact ⟨by decide, by omega, by omega⟩)
            ·
             refine ⟨?_, fun h11 => ?_⟩
             ·
              first
              | exact ⟨hc.1, o0, by simp⟩
              | exact ⟨hc.1, o1, by simp⟩
              | decide
              | (have w0 := wr_i64 (sipS (byL (Sy.rows KT)) (byL [Value.int .u8 u, Value.int .u8 0]))
                 have w1 := wr_i64 (sipS (byL (Sy.rows KT)) (byL [Value.int .u8 u, Value.int .u8 1]))
                 first
                 | omega
                 | exact ⟨by decide, by omega, by omega⟩)
             ·
              refine ⟨?_, fun h12 => ?_⟩
              ·
               first
               | exact ⟨hc.1, o0, by simp⟩
               | exact ⟨hc.1, o1, by simp⟩
               | decide
               | (have w0 := wr_i64 (sipS (byL (Sy.rows KT)) (byL [Value.int .u8 u, Value.int .u8 0]))
                  have w1 := wr_i64 (sipS (byL (Sy.rows KT)) (byL [Value.int .u8 u, Value.int .u8 1]))
                  first
                  | omega
                  | exact ⟨by decide, by omega, by omega⟩)
              ·
               refine ⟨?_, fun h13 => ?_⟩
               ·
                first
                | exact ⟨hc.1, o0, by simp⟩
                | exact ⟨hc.1, o1, by simp⟩
                | decide
                | (have w0 := wr_i64 (sipS (byL (Sy.rows KT)) (byL [Value.int .u8 u, Value.int .u8 0]))
                   have w1 := wr_i64 (sipS (byL (Sy.rows KT)) (byL [Value.int .u8 u, Value.int .u8 1]))
                   first
                   | omega
                   | exact ⟨by decide, by omega, by omega⟩)
               ·
                refine ⟨?_, fun h14 => ?_⟩
                ·
                 first
                 | exact ⟨hc.1, o0, by simp⟩
                 | exact ⟨hc.1, o1, by simp⟩
                 | decide
                 | (have w0 := wr_i64 (sipS (byL (Sy.rows KT)) (byL [Value.int .u8 u, Value.int .u8 0]))
                    have w1 := wr_i64 (sipS (byL (Sy.rows KT)) (byL [Value.int .u8 u, Value.int .u8 1]))
                    first
                    | omega
                    | exact ⟨by decide, by omega, by omega⟩)
                ·
                 refine ⟨?_, fun h15 => ?_⟩
                 ·
                  first
                  | exact ⟨hc.1, o0, by simp⟩
                  | exact ⟨hc.1, o1, by simp⟩
                  | decide
                  | (have w0 := wr_i64 (sipS (byL (Sy.rows KT)) (byL [Value.int .u8 u, Value.int .u8 0]))
                     have w1 := wr_i64 (sipS (byL (Sy.rows KT)) (byL [Value.int .u8 u, Value.int .u8 1]))
                     first
                     | omega
                     | exact ⟨by decide, by omega, by omega⟩)
                 ·
                  refine ⟨?_, fun h16 => ?_⟩
                  ·
                   first
                   | exact ⟨hc.1, o0, by simp⟩
                   | exact ⟨hc.1, o1, by simp⟩
                   | decide
                   | (have w0 := wr_i64 (sipS (byL (Sy.rows KT)) (byL [Value.int .u8 u, Value.int .u8 0]))
                      have w1 := wr_i64 (sipS (byL (Sy.rows KT)) (byL [Value.int .u8 u, Value.int .u8 1]))
                      first
                      | omega
                      | exact ⟨by decide, by omega, by omega⟩)
                  ·
                   refine ⟨?_, fun h17 => ?_⟩
                   ·
                    first
                    | exact ⟨hc.1, o0, by simp⟩
                    | exact ⟨hc.1, o1, by simp⟩
                    | decide
                    | (have w0 := wr_i64 (sipS (byL (Sy.rows KT)) (byL [Value.int .u8 u, Value.int .u8 0]))
                       have w1 := wr_i64 (sipS (byL (Sy.rows KT)) (byL [Value.int .u8 u, Value.int .u8 1]))
                       first
                       | omega
                       | exact ⟨by decide, by omega, by omega⟩)
                   ·
                    refine ⟨?_, fun h18 => ?_⟩
                    ·
                     first
                     | exact ⟨hc.1, o0, by simp⟩
                     | exact ⟨hc.1, o1, by simp⟩
                     | decide
                     | (have w0 := wr_i64 (sipS (byL (Sy.rows KT)) (byL [Value.int .u8 u, Value.int .u8 0]))
                        have w1 := wr_i64 (sipS (byL (Sy.rows KT)) (byL [Value.int .u8 u, Value.int .u8 1]))
                        first
                        | omega
                        | exact ⟨by decide, by omega, by omega⟩)
                    ·
                     refine ⟨?_, fun h19 => ?_⟩
                     ·
                      first
                      | exact ⟨hc.1, o0, by simp⟩
                      | exact ⟨hc.1, o1, by simp⟩
                      | decide
                      | (have w0 := wr_i64 (sipS (byL (Sy.rows KT)) (byL [Value.int .u8 u, Value.int .u8 0]))
                         have w1 := wr_i64 (sipS (byL (Sy.rows KT)) (byL [Value.int .u8 u, Value.int .u8 1]))
                         first
                         | omega
                         | exact ⟨by decide, by omega, by omega⟩)
                     ·
                      rfl
theorem zsg_rder : zsc_rder.Good Try.prog syG (zsE [] [] [] []) := good_of_walk (Γ := ⟨[zpc_rput8, zqc_rsum23], syG, [], [], []⟩) (ρ := zsE [] [] [] []) sym rder_w rfl (fun _ _ _ _ => (ok_cons (Con.Good.env (Con.Good.up (Con.Good.up (Con.Good.up zpg_rput8 zqup rfl) zrup rfl) zsup rfl) _ _ _ _) (ok_cons (Con.Good.env (Con.Good.up (Con.Good.up zqg_rsum23 zrup rfl) zsup rfl) _ _ _ _) ok_nil))) (fun k0 k1 k2 k3 k4 k5 k6 k7 k8 k9 k10 k11 k12 k13 k14 k15 u hc hty => rder_h k0 k1 k2 k3 k4 k5 k6 k7 k8 k9 k10 k11 k12 k13 k14 k15 u hc hty)
def sure23_tree : Tree :=
 (.need (an_ (.bapp 0 (.cons (.tup (.cons (.int .u8 (.lit 0)) (.cons (.int .u8 (.lit 1)) (.cons (.int .u8 (.lit 2)) (.cons (.int .u8 (.lit 3)) (.cons (.int .u8 (.lit 4)) (.cons (.int .u8 (.lit 5)) (.cons (.int .u8 (.lit 6)) (.cons (.int .u8 (.lit 7)) (.cons (.int .u8 (.lit 8)) (.cons (.int .u8 (.lit 9)) (.cons (.int .u8 (.lit 10)) (.cons (.int .u8 (.lit 11)) (.cons (.int .u8 (.lit 12)) (.cons (.int .u8 (.lit 13)) (.cons (.int .u8 (.lit 14)) (.cons (.int .u8 (.lit 15)) .nil))))))))))))))))) .nil)) (an_ (.bapp 0 (.cons (.tup (.cons (.int .u8 (.lit 0)) (.cons (.int .u8 (.lit 1)) (.cons (.int .u8 (.lit 2)) (.cons (.int .u8 (.lit 3)) (.cons (.int .u8 (.lit 4)) (.cons (.int .u8 (.lit 5)) (.cons (.int .u8 (.lit 6)) (.cons (.int .u8 (.lit 7)) (.cons (.int .u8 (.lit 8)) (.cons (.int .u8 (.lit 9)) (.cons (.int .u8 (.lit 10)) (.cons (.int .u8 (.lit 11)) (.cons (.int .u8 (.lit 12)) (.cons (.int .u8 (.lit 13)) (.cons (.int .u8 (.lit 14)) .nil)))))))))))))))) .nil)) (le_ (.ofI (.vop (.len 1) (.cons (.tup (.cons (.int .u8 (.lit 0)) (.cons (.int .u8 (.lit 1)) (.cons (.int .u8 (.lit 2)) (.cons (.int .u8 (.lit 3)) (.cons (.int .u8 (.lit 4)) (.cons (.int .u8 (.lit 5)) (.cons (.int .u8 (.lit 6)) (.cons (.int .u8 (.lit 7)) (.cons (.int .u8 (.lit 8)) (.cons (.int .u8 (.lit 9)) (.cons (.int .u8 (.lit 10)) (.cons (.int .u8 (.lit 11)) (.cons (.int .u8 (.lit 12)) (.cons (.int .u8 (.lit 13)) (.cons (.int .u8 (.lit 14)) .nil)))))))))))))))) .nil))) (.lit 70368744177664))))
 (.br (eq_ (.iapp 16 (.cons (.tup (.cons (.int .u8 (.lit 0)) (.cons (.int .u8 (.lit 1)) (.cons (.int .u8 (.lit 2)) (.cons (.int .u8 (.lit 3)) (.cons (.int .u8 (.lit 4)) (.cons (.int .u8 (.lit 5)) (.cons (.int .u8 (.lit 6)) (.cons (.int .u8 (.lit 7)) (.cons (.int .u8 (.lit 8)) (.cons (.int .u8 (.lit 9)) (.cons (.int .u8 (.lit 10)) (.cons (.int .u8 (.lit 11)) (.cons (.int .u8 (.lit 12)) (.cons (.int .u8 (.lit 13)) (.cons (.int .u8 (.lit 14)) (.cons (.int .u8 (.lit 15)) .nil))))))))))))))))) (.cons (.tup (.cons (.int .u8 (.lit 0)) (.cons (.int .u8 (.lit 1)) (.cons (.int .u8 (.lit 2)) (.cons (.int .u8 (.lit 3)) (.cons (.int .u8 (.lit 4)) (.cons (.int .u8 (.lit 5)) (.cons (.int .u8 (.lit 6)) (.cons (.int .u8 (.lit 7)) (.cons (.int .u8 (.lit 8)) (.cons (.int .u8 (.lit 9)) (.cons (.int .u8 (.lit 10)) (.cons (.int .u8 (.lit 11)) (.cons (.int .u8 (.lit 12)) (.cons (.int .u8 (.lit 13)) (.cons (.int .u8 (.lit 14)) .nil)))))))))))))))) .nil))) (.lit 11613035633349379557))
 (.need (.bapp 0 (.cons (.tup (.cons (.int .u8 (.lit 0)) (.cons (.int .u8 (.lit 1)) (.cons (.int .u8 (.lit 2)) (.cons (.int .u8 (.lit 3)) (.cons (.int .u8 (.lit 4)) (.cons (.int .u8 (.lit 5)) (.cons (.int .u8 (.lit 6)) (.cons (.int .u8 (.lit 7)) (.cons (.int .u8 (.lit 8)) (.cons (.int .u8 (.lit 9)) (.cons (.int .u8 (.lit 10)) (.cons (.int .u8 (.lit 11)) (.cons (.int .u8 (.lit 12)) (.cons (.int .u8 (.lit 13)) (.cons (.int .u8 (.lit 14)) (.cons (.int .u8 (.lit 15)) .nil))))))))))))))))) .nil))
 (.br (eq_ (.iapp 17 (.cons (.tup (.cons (.int .u8 (.lit 0)) (.cons (.int .u8 (.lit 1)) (.cons (.int .u8 (.lit 2)) (.cons (.int .u8 (.lit 3)) (.cons (.int .u8 (.lit 4)) (.cons (.int .u8 (.lit 5)) (.cons (.int .u8 (.lit 6)) (.cons (.int .u8 (.lit 7)) (.cons (.int .u8 (.lit 8)) (.cons (.int .u8 (.lit 9)) (.cons (.int .u8 (.lit 10)) (.cons (.int .u8 (.lit 11)) (.cons (.int .u8 (.lit 12)) (.cons (.int .u8 (.lit 13)) (.cons (.int .u8 (.lit 14)) (.cons (.int .u8 (.lit 15)) .nil))))))))))))))))) (.cons (.int .i64 (.lit 7)) (.cons (.int .u64 (.lit 0)) .nil)))) (.lit 0))
 (.need (.bapp 0 (.cons (.tup (.cons (.int .u8 (.lit 0)) (.cons (.int .u8 (.lit 1)) (.cons (.int .u8 (.lit 2)) (.cons (.int .u8 (.lit 3)) (.cons (.int .u8 (.lit 4)) (.cons (.int .u8 (.lit 5)) (.cons (.int .u8 (.lit 6)) (.cons (.int .u8 (.lit 7)) (.cons (.int .u8 (.lit 8)) (.cons (.int .u8 (.lit 9)) (.cons (.int .u8 (.lit 10)) (.cons (.int .u8 (.lit 11)) (.cons (.int .u8 (.lit 12)) (.cons (.int .u8 (.lit 13)) (.cons (.int .u8 (.lit 14)) (.cons (.int .u8 (.lit 15)) .nil))))))))))))))))) .nil))
 (.ret (.bool (.not (an_ (eq_ (.iapp 18 (.cons (.tup (.cons (.int .u8 (.lit 0)) (.cons (.int .u8 (.lit 1)) (.cons (.int .u8 (.lit 2)) (.cons (.int .u8 (.lit 3)) (.cons (.int .u8 (.lit 4)) (.cons (.int .u8 (.lit 5)) (.cons (.int .u8 (.lit 6)) (.cons (.int .u8 (.lit 7)) (.cons (.int .u8 (.lit 8)) (.cons (.int .u8 (.lit 9)) (.cons (.int .u8 (.lit 10)) (.cons (.int .u8 (.lit 11)) (.cons (.int .u8 (.lit 12)) (.cons (.int .u8 (.lit 13)) (.cons (.int .u8 (.lit 14)) (.cons (.int .u8 (.lit 15)) .nil))))))))))))))))) (.cons (.int .u8 (.lit 1)) (.cons (.int .i64 (.lit 0)) .nil)))) (.lit 0)) (an_ (eq_ (.iapp 18 (.cons (.tup (.cons (.int .u8 (.lit 0)) (.cons (.int .u8 (.lit 1)) (.cons (.int .u8 (.lit 2)) (.cons (.int .u8 (.lit 3)) (.cons (.int .u8 (.lit 4)) (.cons (.int .u8 (.lit 5)) (.cons (.int .u8 (.lit 6)) (.cons (.int .u8 (.lit 7)) (.cons (.int .u8 (.lit 8)) (.cons (.int .u8 (.lit 9)) (.cons (.int .u8 (.lit 10)) (.cons (.int .u8 (.lit 11)) (.cons (.int .u8 (.lit 12)) (.cons (.int .u8 (.lit 13)) (.cons (.int .u8 (.lit 14)) (.cons (.int .u8 (.lit 15)) .nil))))))))))))))))) (.cons (.int .u8 (.lit 1)) (.cons (.int .i64 (.lit 1)) .nil)))) (.lit 1)) (an_ (eq_ (.iapp 18 (.cons (.tup (.cons (.int .u8 (.lit 0)) (.cons (.int .u8 (.lit 1)) (.cons (.int .u8 (.lit 2)) (.cons (.int .u8 (.lit 3)) (.cons (.int .u8 (.lit 4)) (.cons (.int .u8 (.lit 5)) (.cons (.int .u8 (.lit 6)) (.cons (.int .u8 (.lit 7)) (.cons (.int .u8 (.lit 8)) (.cons (.int .u8 (.lit 9)) (.cons (.int .u8 (.lit 10)) (.cons (.int .u8 (.lit 11)) (.cons (.int .u8 (.lit 12)) (.cons (.int .u8 (.lit 13)) (.cons (.int .u8 (.lit 14)) (.cons (.int .u8 (.lit 15)) .nil))))))))))))))))) (.cons (.int .u8 (.lit 1)) (.cons (.int .i64 (.lit 2)) .nil)))) (.lit 2)) (an_ (eq_ (.iapp 18 (.cons (.tup (.cons (.int .u8 (.lit 0)) (.cons (.int .u8 (.lit 1)) (.cons (.int .u8 (.lit 2)) (.cons (.int .u8 (.lit 3)) (.cons (.int .u8 (.lit 4)) (.cons (.int .u8 (.lit 5)) (.cons (.int .u8 (.lit 6)) (.cons (.int .u8 (.lit 7)) (.cons (.int .u8 (.lit 8)) (.cons (.int .u8 (.lit 9)) (.cons (.int .u8 (.lit 10)) (.cons (.int .u8 (.lit 11)) (.cons (.int .u8 (.lit 12)) (.cons (.int .u8 (.lit 13)) (.cons (.int .u8 (.lit 14)) (.cons (.int .u8 (.lit 15)) .nil))))))))))))))))) (.cons (.int .u8 (.lit 1)) (.cons (.int .i64 (.lit 3)) .nil)))) (.lit 3)) (an_ (eq_ (.iapp 18 (.cons (.tup (.cons (.int .u8 (.lit 0)) (.cons (.int .u8 (.lit 1)) (.cons (.int .u8 (.lit 2)) (.cons (.int .u8 (.lit 3)) (.cons (.int .u8 (.lit 4)) (.cons (.int .u8 (.lit 5)) (.cons (.int .u8 (.lit 6)) (.cons (.int .u8 (.lit 7)) (.cons (.int .u8 (.lit 8)) (.cons (.int .u8 (.lit 9)) (.cons (.int .u8 (.lit 10)) (.cons (.int .u8 (.lit 11)) (.cons (.int .u8 (.lit 12)) (.cons (.int .u8 (.lit 13)) (.cons (.int .u8 (.lit 14)) (.cons (.int .u8 (.lit 15)) .nil))))))))))))))))) (.cons (.int .u8 (.lit 1)) (.cons (.int .i64 (.lit 4)) .nil)))) (.lit 4)) (an_ (eq_ (.iapp 18 (.cons (.tup (.cons (.int .u8 (.lit 0)) (.cons (.int .u8 (.lit 1)) (.cons (.int .u8 (.lit 2)) (.cons (.int .u8 (.lit 3)) (.cons (.int .u8 (.lit 4)) (.cons (.int .u8 (.lit 5)) (.cons (.int .u8 (.lit 6)) (.cons (.int .u8 (.lit 7)) (.cons (.int .u8 (.lit 8)) (.cons (.int .u8 (.lit 9)) (.cons (.int .u8 (.lit 10)) (.cons (.int .u8 (.lit 11)) (.cons (.int .u8 (.lit 12)) (.cons (.int .u8 (.lit 13)) (.cons (.int .u8 (.lit 14)) (.cons (.int .u8 (.lit 15)) .nil))))))))))))))))) (.cons (.int .u8 (.lit 1)) (.cons (.int .i64 (.lit 5)) .nil)))) (.lit 5)) (an_ (eq_ (.iapp 18 (.cons (.tup (.cons (.int .u8 (.lit 0)) (.cons (.int .u8 (.lit 1)) (.cons (.int .u8 (.lit 2)) (.cons (.int .u8 (.lit 3)) (.cons (.int .u8 (.lit 4)) (.cons (.int .u8 (.lit 5)) (.cons (.int .u8 (.lit 6)) (.cons (.int .u8 (.lit 7)) (.cons (.int .u8 (.lit 8)) (.cons (.int .u8 (.lit 9)) (.cons (.int .u8 (.lit 10)) (.cons (.int .u8 (.lit 11)) (.cons (.int .u8 (.lit 12)) (.cons (.int .u8 (.lit 13)) (.cons (.int .u8 (.lit 14)) (.cons (.int .u8 (.lit 15)) .nil))))))))))))))))) (.cons (.int .u8 (.lit 1)) (.cons (.int .i64 (.lit 6)) .nil)))) (.lit 6)) (an_ (eq_ (.iapp 18 (.cons (.tup (.cons (.int .u8 (.lit 0)) (.cons (.int .u8 (.lit 1)) (.cons (.int .u8 (.lit 2)) (.cons (.int .u8 (.lit 3)) (.cons (.int .u8 (.lit 4)) (.cons (.int .u8 (.lit 5)) (.cons (.int .u8 (.lit 6)) (.cons (.int .u8 (.lit 7)) (.cons (.int .u8 (.lit 8)) (.cons (.int .u8 (.lit 9)) (.cons (.int .u8 (.lit 10)) (.cons (.int .u8 (.lit 11)) (.cons (.int .u8 (.lit 12)) (.cons (.int .u8 (.lit 13)) (.cons (.int .u8 (.lit 14)) (.cons (.int .u8 (.lit 15)) .nil))))))))))))))))) (.cons (.int .u8 (.lit 1)) (.cons (.int .i64 (.lit 7)) .nil)))) (.lit 7)) (an_ (eq_ (.iapp 18 (.cons (.tup (.cons (.int .u8 (.lit 0)) (.cons (.int .u8 (.lit 1)) (.cons (.int .u8 (.lit 2)) (.cons (.int .u8 (.lit 3)) (.cons (.int .u8 (.lit 4)) (.cons (.int .u8 (.lit 5)) (.cons (.int .u8 (.lit 6)) (.cons (.int .u8 (.lit 7)) (.cons (.int .u8 (.lit 8)) (.cons (.int .u8 (.lit 9)) (.cons (.int .u8 (.lit 10)) (.cons (.int .u8 (.lit 11)) (.cons (.int .u8 (.lit 12)) (.cons (.int .u8 (.lit 13)) (.cons (.int .u8 (.lit 14)) (.cons (.int .u8 (.lit 15)) .nil))))))))))))))))) (.cons (.int .u8 (.lit 1)) (.cons (.int .i64 (.lit 8)) .nil)))) (.lit 8)) (an_ (eq_ (.iapp 18 (.cons (.tup (.cons (.int .u8 (.lit 0)) (.cons (.int .u8 (.lit 1)) (.cons (.int .u8 (.lit 2)) (.cons (.int .u8 (.lit 3)) (.cons (.int .u8 (.lit 4)) (.cons (.int .u8 (.lit 5)) (.cons (.int .u8 (.lit 6)) (.cons (.int .u8 (.lit 7)) (.cons (.int .u8 (.lit 8)) (.cons (.int .u8 (.lit 9)) (.cons (.int .u8 (.lit 10)) (.cons (.int .u8 (.lit 11)) (.cons (.int .u8 (.lit 12)) (.cons (.int .u8 (.lit 13)) (.cons (.int .u8 (.lit 14)) (.cons (.int .u8 (.lit 15)) .nil))))))))))))))))) (.cons (.int .u8 (.lit 1)) (.cons (.int .i64 (.lit 9)) .nil)))) (.lit 9)) (an_ (eq_ (.iapp 18 (.cons (.tup (.cons (.int .u8 (.lit 0)) (.cons (.int .u8 (.lit 1)) (.cons (.int .u8 (.lit 2)) (.cons (.int .u8 (.lit 3)) (.cons (.int .u8 (.lit 4)) (.cons (.int .u8 (.lit 5)) (.cons (.int .u8 (.lit 6)) (.cons (.int .u8 (.lit 7)) (.cons (.int .u8 (.lit 8)) (.cons (.int .u8 (.lit 9)) (.cons (.int .u8 (.lit 10)) (.cons (.int .u8 (.lit 11)) (.cons (.int .u8 (.lit 12)) (.cons (.int .u8 (.lit 13)) (.cons (.int .u8 (.lit 14)) (.cons (.int .u8 (.lit 15)) .nil))))))))))))))))) (.cons (.int .u8 (.lit 1)) (.cons (.int .i64 (.lit 10)) .nil)))) (.lit 10)) (an_ (eq_ (.iapp 18 (.cons (.tup (.cons (.int .u8 (.lit 0)) (.cons (.int .u8 (.lit 1)) (.cons (.int .u8 (.lit 2)) (.cons (.int .u8 (.lit 3)) (.cons (.int .u8 (.lit 4)) (.cons (.int .u8 (.lit 5)) (.cons (.int .u8 (.lit 6)) (.cons (.int .u8 (.lit 7)) (.cons (.int .u8 (.lit 8)) (.cons (.int .u8 (.lit 9)) (.cons (.int .u8 (.lit 10)) (.cons (.int .u8 (.lit 11)) (.cons (.int .u8 (.lit 12)) (.cons (.int .u8 (.lit 13)) (.cons (.int .u8 (.lit 14)) (.cons (.int .u8 (.lit 15)) .nil))))))))))))))))) (.cons (.int .u8 (.lit 1)) (.cons (.int .i64 (.lit 11)) .nil)))) (.lit 11)) (an_ (eq_ (.iapp 18 (.cons (.tup (.cons (.int .u8 (.lit 0)) (.cons (.int .u8 (.lit 1)) (.cons (.int .u8 (.lit 2)) (.cons (.int .u8 (.lit 3)) (.cons (.int .u8 (.lit 4)) (.cons (.int .u8 (.lit 5)) (.cons (.int .u8 (.lit 6)) (.cons (.int .u8 (.lit 7)) (.cons (.int .u8 (.lit 8)) (.cons (.int .u8 (.lit 9)) (.cons (.int .u8 (.lit 10)) (.cons (.int .u8 (.lit 11)) (.cons (.int .u8 (.lit 12)) (.cons (.int .u8 (.lit 13)) (.cons (.int .u8 (.lit 14)) (.cons (.int .u8 (.lit 15)) .nil))))))))))))))))) (.cons (.int .u8 (.lit 1)) (.cons (.int .i64 (.lit 12)) .nil)))) (.lit 12)) (an_ (eq_ (.iapp 18 (.cons (.tup (.cons (.int .u8 (.lit 0)) (.cons (.int .u8 (.lit 1)) (.cons (.int .u8 (.lit 2)) (.cons (.int .u8 (.lit 3)) (.cons (.int .u8 (.lit 4)) (.cons (.int .u8 (.lit 5)) (.cons (.int .u8 (.lit 6)) (.cons (.int .u8 (.lit 7)) (.cons (.int .u8 (.lit 8)) (.cons (.int .u8 (.lit 9)) (.cons (.int .u8 (.lit 10)) (.cons (.int .u8 (.lit 11)) (.cons (.int .u8 (.lit 12)) (.cons (.int .u8 (.lit 13)) (.cons (.int .u8 (.lit 14)) (.cons (.int .u8 (.lit 15)) .nil))))))))))))))))) (.cons (.int .u8 (.lit 1)) (.cons (.int .i64 (.lit 13)) .nil)))) (.lit 13)) (an_ (eq_ (.iapp 18 (.cons (.tup (.cons (.int .u8 (.lit 0)) (.cons (.int .u8 (.lit 1)) (.cons (.int .u8 (.lit 2)) (.cons (.int .u8 (.lit 3)) (.cons (.int .u8 (.lit 4)) (.cons (.int .u8 (.lit 5)) (.cons (.int .u8 (.lit 6)) (.cons (.int .u8 (.lit 7)) (.cons (.int .u8 (.lit 8)) (.cons (.int .u8 (.lit 9)) (.cons (.int .u8 (.lit 10)) (.cons (.int .u8 (.lit 11)) (.cons (.int .u8 (.lit 12)) (.cons (.int .u8 (.lit 13)) (.cons (.int .u8 (.lit 14)) (.cons (.int .u8 (.lit 15)) .nil))))))))))))))))) (.cons (.int .u8 (.lit 1)) (.cons (.int .i64 (.lit 14)) .nil)))) (.lit 14)) (eq_ (.iapp 18 (.cons (.tup (.cons (.int .u8 (.lit 0)) (.cons (.int .u8 (.lit 1)) (.cons (.int .u8 (.lit 2)) (.cons (.int .u8 (.lit 3)) (.cons (.int .u8 (.lit 4)) (.cons (.int .u8 (.lit 5)) (.cons (.int .u8 (.lit 6)) (.cons (.int .u8 (.lit 7)) (.cons (.int .u8 (.lit 8)) (.cons (.int .u8 (.lit 9)) (.cons (.int .u8 (.lit 10)) (.cons (.int .u8 (.lit 11)) (.cons (.int .u8 (.lit 12)) (.cons (.int .u8 (.lit 13)) (.cons (.int .u8 (.lit 14)) (.cons (.int .u8 (.lit 15)) .nil))))))))))))))))) (.cons (.int .u8 (.lit 1)) (.cons (.int .i64 (.lit 15)) .nil)))) (.lit 15)))))))))))))))))))))
 (.ret (.bool (.tt false)))))
 (.ret (.bool (.tt false)))))
abbrev zsc_sure23 : Con := ⟨7, [], (.tt true), (.bool (.tt true)), ⟨0, 0, 0, 0⟩, none⟩
theorem sure23_w : walk Try.prog 102 ⟨[zqc_psum, zrc_pnum, zsc_pder], syG, [], [], []⟩ [] .v zsc_sure23 zsc_sure23.n 3000 = some sure23_tree := by kernel_rfl
theorem sure23_h  (hc : holds (zsE [] [] [] []) (.tt true)) (hty : patsTyp (zsE [] [] [] []) []) : sure23_tree.holds (fun v_ => v_ = denV (zsE [] [] [] []) b0 (.bool (.tt true))) (zsE [] [] [] []) := by
  simp only [Tree.holds, Sy.holds, AllN, Env.more, zsE, List.cons_append, List.nil_append, List.append_nil, denV, denI, denB, denL, I2.den, VOp.den, List.getD_cons_zero, List.getD_cons_succ, Cst.den, syso, syse, syio, sybo, List.map_nil, List.map_cons, B2.ofInts, B2.denI, B2.denB, if_true, Bool.false_eq_true, if_false, Nat.div_one, Nat.mul_one, Nat.add_zero, holds] at hc
  simp only [patsTyp, patTyp, patTypL, zsE, denV, denL, List.getD_cons_zero, List.getD_cons_succ, and_true, true_and] at hty
  unfold sure23_tree
  simp only [Tree.holds, Sy.holds, AllN, Env.more, zsE, List.cons_append, List.nil_append, List.append_nil, denV, denI, denB, denL, I2.den, VOp.den, List.getD_cons_zero, List.getD_cons_succ, Cst.den, syso, syse, syio, sybo, zsi_sip, zsi_nb, zsi_dv, zsb_okr, List.map_nil, List.map_cons, B2.ofInts, B2.denI, B2.denB, if_true, Bool.false_eq_true, if_false, Nat.div_one, Nat.mul_one, Nat.add_zero]
  simp only [rows_arr]
  have hZ : okR ([Value.int .u8 0, Value.int .u8 1, Value.int .u8 2, Value.int .u8 3, Value.int .u8 4, Value.int .u8 5, Value.int .u8 6, Value.int .u8 7, Value.int .u8 8, Value.int .u8 9, Value.int .u8 10, Value.int .u8 11, Value.int .u8 12, Value.int .u8 13, Value.int .u8 14, Value.int .u8 15] : List Value) = true := okR_isB (fun x hx => by
    simp only [List.mem_cons, List.not_mem_nil, or_false] at hx
    rcases hx with rfl | rfl | rfl | rfl | rfl | rfl | rfl | rfl | rfl | rfl | rfl | rfl | rfl | rfl | rfl | rfl <;> exact ⟨_, rfl, by decide, by decide⟩)
  have hY : okR ([Value.int .u8 0, Value.int .u8 1, Value.int .u8 2, Value.int .u8 3, Value.int .u8 4, Value.int .u8 5, Value.int .u8 6, Value.int .u8 7, Value.int .u8 8, Value.int .u8 9, Value.int .u8 10, Value.int .u8 11, Value.int .u8 12, Value.int .u8 13, Value.int .u8 14] : List Value) = true := okR_isB (fun x hx => by
    simp only [List.mem_cons, List.not_mem_nil, or_false] at hx
    rcases hx with rfl | rfl | rfl | rfl | rfl | rfl | rfl | rfl | rfl | rfl | rfl | rfl | rfl | rfl | rfl <;> exact ⟨_, rfl, by decide, by decide⟩)
  have hYl : ([Value.int .u8 0, Value.int .u8 1, Value.int .u8 2, Value.int .u8 3, Value.int .u8 4, Value.int .u8 5, Value.int .u8 6, Value.int .u8 7, Value.int .u8 8, Value.int .u8 9, Value.int .u8 10, Value.int .u8 11, Value.int .u8 12, Value.int .u8 13, Value.int .u8 14] : List Value).length = 15 := rfl
  have q1 : sipS (byL [Value.int .u8 0, Value.int .u8 1, Value.int .u8 2, Value.int .u8 3, Value.int .u8 4, Value.int .u8 5, Value.int .u8 6, Value.int .u8 7, Value.int .u8 8, Value.int .u8 9, Value.int .u8 10, Value.int .u8 11, Value.int .u8 12, Value.int .u8 13, Value.int .u8 14, Value.int .u8 15]) (byL [Value.int .u8 0, Value.int .u8 1, Value.int .u8 2, Value.int .u8 3, Value.int .u8 4, Value.int .u8 5, Value.int .u8 6, Value.int .u8 7, Value.int .u8 8, Value.int .u8 9, Value.int .u8 10, Value.int .u8 11, Value.int .u8 12, Value.int .u8 13, Value.int .u8 14]) = 11613035633349379557 := by decide
  have q2 : (Go.RowKit.intOf ((drvL (byL [Value.int .u8 0, Value.int .u8 1, Value.int .u8 2, Value.int .u8 3, Value.int .u8 4, Value.int .u8 5, Value.int .u8 6, Value.int .u8 7, Value.int .u8 8, Value.int .u8 9, Value.int .u8 10, Value.int .u8 11, Value.int .u8 12, Value.int .u8 13, Value.int .u8 14, Value.int .u8 15]) 1).getD (Int.toNat 0) Go.undef) == 0) = false := by decide
  have q3 : numS (byL [Value.int .u8 0, Value.int .u8 1, Value.int .u8 2, Value.int .u8 3, Value.int .u8 4, Value.int .u8 5, Value.int .u8 6, Value.int .u8 7, Value.int .u8 8, Value.int .u8 9, Value.int .u8 10, Value.int .u8 11, Value.int .u8 12, Value.int .u8 13, Value.int .u8 14, Value.int .u8 15]) 7 0 = 0 := num_zero
  generalize ([Value.int .u8 0, Value.int .u8 1, Value.int .u8 2, Value.int .u8 3, Value.int .u8 4, Value.int .u8 5, Value.int .u8 6, Value.int .u8 7, Value.int .u8 8, Value.int .u8 9, Value.int .u8 10, Value.int .u8 11, Value.int .u8 12, Value.int .u8 13, Value.int .u8 14, Value.int .u8 15] : List Value) = KZ at hZ q1 q2 q3 ⊢
  generalize ([Value.int .u8 0, Value.int .u8 1, Value.int .u8 2, Value.int .u8 3, Value.int .u8 4, Value.int .u8 5, Value.int .u8 6, Value.int .u8 7, Value.int .u8 8, Value.int .u8 9, Value.int .u8 10, Value.int .u8 11, Value.int .u8 12, Value.int .u8 13, Value.int .u8 14] : List Value) = KY at hY hYl q1 ⊢
  simp only [q2, Bool.false_and, Bool.not_false]
  refine ⟨?_, fun h0 => ?_⟩
  ·
   first
   | exact True.intro
   | exact hZ
   | exact ⟨hZ, hY, by omega⟩
   | exact ⟨hZ, by omega⟩
   | omega
  ·
   refine ⟨fun h1 => ?_, fun h1 => ?_⟩
   ·
    refine ⟨?_, fun h2 => ?_⟩
    ·
     first
     | exact True.intro
     | exact hZ
     | exact ⟨hZ, hY, by omega⟩
     | exact ⟨hZ, by omega⟩
     | omega
    ·
     refine ⟨fun h3 => ?_, fun h3 => ?_⟩
     ·
      refine ⟨?_, fun h4 => ?_⟩
      ·
       first
       | exact True.intro
       | exact hZ
       | exact ⟨hZ, hY, by omega⟩
       | exact ⟨hZ, by omega⟩
       | omega
      ·
       first
       | exact True.intro
       | rfl
       | (exfalso; omega)
     ·
      first
      | exact True.intro
      | rfl
      | (exfalso; omega)
   ·
    first
    | exact True.intro
    | rfl
    | (exfalso; omega)
theorem zsg_sure23 : zsc_sure23.Good Try.prog syG (zsE [] [] [] []) := good_of_walk (Γ := ⟨[zqc_psum, zrc_pnum, zsc_pder], syG, [], [], []⟩) (ρ := zsE [] [] [] []) sym sure23_w rfl (fun _ _ _ _ => (ok_cons (Con.Good.env (Con.Good.up (Con.Good.up zqg_psum zrup rfl) zsup rfl) _ _ _ _) (ok_cons (Con.Good.env (Con.Good.up zrg_pnum zsup rfl) _ _ _ _) (ok_cons (Con.Good.env zsg_pder _ _ _ _) ok_nil)))) (fun hc hty => sure23_h  hc hty)
def wSums_tree : Tree :=
 (.br (lt_ (.lit 300) (.ofI (.vop (.len 1) (.cons o0_ .nil))))
 (.ret (.bool (.tt true)))
 (.need (an_ (.bapp 0 (.cons (.tup (.cons (.int .u8 v0_) (.cons (.int .u8 v1_) (.cons (.int .u8 v2_) (.cons (.int .u8 v3_) (.cons (.int .u8 v4_) (.cons (.int .u8 v5_) (.cons (.int .u8 v6_) (.cons (.int .u8 v7_) (.cons (.int .u8 v8_) (.cons (.int .u8 v9_) (.cons (.int .u8 (.var 10)) (.cons (.int .u8 (.var 11)) (.cons (.int .u8 (.var 12)) (.cons (.int .u8 (.var 13)) (.cons (.int .u8 (.var 14)) (.cons (.int .u8 (.var 15)) .nil))))))))))))))))) .nil)) (an_ (.bapp 0 (.cons o0_ .nil)) (le_ (.ofI (.vop (.len 1) (.cons o0_ .nil))) (.lit 70368744177664))))
 (.need (an_ (.bapp 0 (.cons (.tup (.cons (.int .u8 v0_) (.cons (.int .u8 v1_) (.cons (.int .u8 v2_) (.cons (.int .u8 v3_) (.cons (.int .u8 v4_) (.cons (.int .u8 v5_) (.cons (.int .u8 v6_) (.cons (.int .u8 v7_) (.cons (.int .u8 v8_) (.cons (.int .u8 v9_) (.cons (.int .u8 (.var 10)) (.cons (.int .u8 (.var 11)) (.cons (.int .u8 (.var 12)) (.cons (.int .u8 (.var 13)) (.cons (.int .u8 (.var 14)) (.cons (.int .u8 (.var 15)) .nil))))))))))))))))) .nil)) (an_ (.bapp 0 (.cons o0_ .nil)) (le_ (.ofI (.vop (.len 1) (.cons o0_ .nil))) (.lit 70368744177664))))
 (.need (an_ (.bapp 0 (.cons (.tup (.cons (.int .u8 v0_) (.cons (.int .u8 v1_) (.cons (.int .u8 v2_) (.cons (.int .u8 v3_) (.cons (.int .u8 v4_) (.cons (.int .u8 v5_) (.cons (.int .u8 v6_) (.cons (.int .u8 v7_) (.cons (.int .u8 v8_) (.cons (.int .u8 v9_) (.cons (.int .u8 (.var 10)) (.cons (.int .u8 (.var 11)) (.cons (.int .u8 (.var 12)) (.cons (.int .u8 (.var 13)) (.cons (.int .u8 (.var 14)) (.cons (.int .u8 (.var 15)) .nil))))))))))))))))) .nil)) (an_ (an_ (le_ lm_ (wr_ (sb_ (.ofI (.vop (.len 1) (.cons o0_ .nil))) (.lit 20)))) (le_ (wr_ (sb_ (.ofI (.vop (.len 1) (.cons o0_ .nil))) (.lit 20))) lM_)) (an_ (le_ (.lit 0) (.var 16)) (le_ (.var 16) (.lit 18446744073709551615)))))
 (.need (an_ (.bapp 0 (.cons (.tup (.cons (.int .u8 v0_) (.cons (.int .u8 v1_) (.cons (.int .u8 v2_) (.cons (.int .u8 v3_) (.cons (.int .u8 v4_) (.cons (.int .u8 v5_) (.cons (.int .u8 v6_) (.cons (.int .u8 v7_) (.cons (.int .u8 v8_) (.cons (.int .u8 v9_) (.cons (.int .u8 (.var 10)) (.cons (.int .u8 (.var 11)) (.cons (.int .u8 (.var 12)) (.cons (.int .u8 (.var 13)) (.cons (.int .u8 (.var 14)) (.cons (.int .u8 (.var 15)) .nil))))))))))))))))) .nil)) (an_ (an_ (le_ lm_ (wr_ (sb_ (.ofI (.vop (.len 1) (.cons o0_ .nil))) (.lit 20)))) (le_ (wr_ (sb_ (.ofI (.vop (.len 1) (.cons o0_ .nil))) (.lit 20))) lM_)) (an_ (le_ (.lit 0) (.var 16)) (le_ (.var 16) (.lit 18446744073709551615)))))
 (.need (an_ (.bapp 0 (.cons (.tup (.cons (.int .u8 v0_) (.cons (.int .u8 v1_) (.cons (.int .u8 v2_) (.cons (.int .u8 v3_) (.cons (.int .u8 v4_) (.cons (.int .u8 v5_) (.cons (.int .u8 v6_) (.cons (.int .u8 v7_) (.cons (.int .u8 v8_) (.cons (.int .u8 v9_) (.cons (.int .u8 (.var 10)) (.cons (.int .u8 (.var 11)) (.cons (.int .u8 (.var 12)) (.cons (.int .u8 (.var 13)) (.cons (.int .u8 (.var 14)) (.cons (.int .u8 (.var 15)) .nil))))))))))))))))) .nil)) (an_ (le_ (.lit 0) (.wrap .u8 (.var 16))) (le_ (.wrap .u8 (.var 16)) (.lit 255))))
 (.need (an_ (.bapp 0 (.cons (.tup (.cons (.int .u8 v0_) (.cons (.int .u8 v1_) (.cons (.int .u8 v2_) (.cons (.int .u8 v3_) (.cons (.int .u8 v4_) (.cons (.int .u8 v5_) (.cons (.int .u8 v6_) (.cons (.int .u8 v7_) (.cons (.int .u8 v8_) (.cons (.int .u8 v9_) (.cons (.int .u8 (.var 10)) (.cons (.int .u8 (.var 11)) (.cons (.int .u8 (.var 12)) (.cons (.int .u8 (.var 13)) (.cons (.int .u8 (.var 14)) (.cons (.int .u8 (.var 15)) .nil))))))))))))))))) .nil)) (an_ (le_ (.lit 0) (.wrap .u8 (.var 16))) (le_ (.wrap .u8 (.var 16)) (.lit 255))))
 (.ret (.bool (.tt true))))))))))
abbrev zsc_wSums : Con := ⟨3, [(.agg (.cons (.int .u8 v0_) (.cons (.int .u8 v1_) (.cons (.int .u8 v2_) (.cons (.int .u8 v3_) (.cons (.int .u8 v4_) (.cons (.int .u8 v5_) (.cons (.int .u8 v6_) (.cons (.int .u8 v7_) (.cons (.int .u8 v8_) (.cons (.int .u8 v9_) (.cons (.int .u8 (.var 10)) (.cons (.int .u8 (.var 11)) (.cons (.int .u8 (.var 12)) (.cons (.int .u8 (.var 13)) (.cons (.int .u8 (.var 14)) (.cons (.int .u8 (.var 15)) .nil))))))))))))))))), (.hs .no (.cons (.int .u8) .nil) o0_), (.int .u64 (.var 16))], (an_ (.bapp 0 (.cons (.tup (.cons (.int .u8 v0_) (.cons (.int .u8 v1_) (.cons (.int .u8 v2_) (.cons (.int .u8 v3_) (.cons (.int .u8 v4_) (.cons (.int .u8 v5_) (.cons (.int .u8 v6_) (.cons (.int .u8 v7_) (.cons (.int .u8 v8_) (.cons (.int .u8 v9_) (.cons (.int .u8 (.var 10)) (.cons (.int .u8 (.var 11)) (.cons (.int .u8 (.var 12)) (.cons (.int .u8 (.var 13)) (.cons (.int .u8 (.var 14)) (.cons (.int .u8 (.var 15)) .nil))))))))))))))))) .nil)) (an_ (.bapp 0 (.cons o0_ .nil)) (an_ (le_ (.lit 0) (.var 16)) (le_ (.var 16) (.lit 18446744073709551615))))), (.bool (.tt true)), ⟨17, 0, 1, 0⟩, none⟩
theorem wSums_w : walk Try.prog 102 ⟨[zsc_sure23, zqc_psum, zqc_rsum23, zrc_pnum, zrc_rnum23, zsc_pder, zsc_rder], syG, [], [], []⟩ [] .v zsc_wSums zsc_wSums.n 3000 = some wSums_tree := by kernel_rfl
theorem wSums_h (k0 : Int) (k1 : Int) (k2 : Int) (k3 : Int) (k4 : Int) (k5 : Int) (k6 : Int) (k7 : Int) (k8 : Int) (k9 : Int) (k10 : Int) (k11 : Int) (k12 : Int) (k13 : Int) (k14 : Int) (k15 : Int) (n : Int) (l : Value) (hc : holds (zsE [k0, k1, k2, k3, k4, k5, k6, k7, k8, k9, k10, k11, k12, k13, k14, k15, n] [] [l] []) (an_ (.bapp 0 (.cons (.tup (.cons (.int .u8 v0_) (.cons (.int .u8 v1_) (.cons (.int .u8 v2_) (.cons (.int .u8 v3_) (.cons (.int .u8 v4_) (.cons (.int .u8 v5_) (.cons (.int .u8 v6_) (.cons (.int .u8 v7_) (.cons (.int .u8 v8_) (.cons (.int .u8 v9_) (.cons (.int .u8 (.var 10)) (.cons (.int .u8 (.var 11)) (.cons (.int .u8 (.var 12)) (.cons (.int .u8 (.var 13)) (.cons (.int .u8 (.var 14)) (.cons (.int .u8 (.var 15)) .nil))))))))))))))))) .nil)) (an_ (.bapp 0 (.cons o0_ .nil)) (an_ (le_ (.lit 0) (.var 16)) (le_ (.var 16) (.lit 18446744073709551615)))))) (hty : patsTyp (zsE [k0, k1, k2, k3, k4, k5, k6, k7, k8, k9, k10, k11, k12, k13, k14, k15, n] [] [l] []) [(.agg (.cons (.int .u8 v0_) (.cons (.int .u8 v1_) (.cons (.int .u8 v2_) (.cons (.int .u8 v3_) (.cons (.int .u8 v4_) (.cons (.int .u8 v5_) (.cons (.int .u8 v6_) (.cons (.int .u8 v7_) (.cons (.int .u8 v8_) (.cons (.int .u8 v9_) (.cons (.int .u8 (.var 10)) (.cons (.int .u8 (.var 11)) (.cons (.int .u8 (.var 12)) (.cons (.int .u8 (.var 13)) (.cons (.int .u8 (.var 14)) (.cons (.int .u8 (.var 15)) .nil))))))))))))))))), (.hs .no (.cons (.int .u8) .nil) o0_), (.int .u64 (.var 16))]) : wSums_tree.holds (fun v_ => v_ = denV (zsE [k0, k1, k2, k3, k4, k5, k6, k7, k8, k9, k10, k11, k12, k13, k14, k15, n] [] [l] []) b0 (.bool (.tt true))) (zsE [k0, k1, k2, k3, k4, k5, k6, k7, k8, k9, k10, k11, k12, k13, k14, k15, n] [] [l] []) := by
  simp only [Tree.holds, Sy.holds, AllN, Env.more, zsE, List.cons_append, List.nil_append, List.append_nil, denV, denI, denB, denL, I2.den, VOp.den, List.getD_cons_zero, List.getD_cons_succ, Cst.den, syso, syse, syio, sybo, zsb_okr, List.map_nil, List.map_cons, B2.ofInts, B2.denI, B2.denB, if_true, Bool.false_eq_true, if_false, Nat.div_one, Nat.mul_one, Nat.add_zero, holds] at hc
  simp only [patsTyp, patTyp, patTypL, zsE, denV, denL, List.getD_cons_zero, List.getD_cons_succ, and_true, true_and] at hty
  have hL_l : typ (.sl (.cons (.int .u8) .nil)) l := by first | exact hty | exact hty.1 | exact hty.2 | exact hty.1.1 | exact hty.1.2 | exact hty.2.1 | exact hty.2.2 | exact hty.2.2.1 | exact hty.2.2.2
  have hN_l := typ_len (n := 1) hL_l rfl (by omega)
  simp only [Nat.div_one, Nat.mul_one] at hN_l
  unfold wSums_tree
  simp only [Tree.holds, Sy.holds, AllN, Env.more, zsE, List.cons_append, List.nil_append, List.append_nil, denV, denI, denB, denL, I2.den, VOp.den, List.getD_cons_zero, List.getD_cons_succ, Cst.den, syso, syse, syio, sybo, zsb_okr, List.map_nil, List.map_cons, B2.ofInts, B2.denI, B2.denB, if_true, Bool.false_eq_true, if_false, Nat.div_one, Nat.mul_one, Nat.add_zero]
  generalize hKT : Value.tuple #[Value.int .u8 k0, Value.int .u8 k1, Value.int .u8 k2, Value.int .u8 k3, Value.int .u8 k4, Value.int .u8 k5, Value.int .u8 k6, Value.int .u8 k7, Value.int .u8 k8, Value.int .u8 k9, Value.int .u8 k10, Value.int .u8 k11, Value.int .u8 k12, Value.int .u8 k13, Value.int .u8 k14, Value.int .u8 k15] = KT at hc ⊢
  refine ⟨fun h0 => ?_, fun h0 => ?_⟩
  ·
   first
   | exact True.intro
   | rfl
  ·
   refine ⟨?_, fun h1 => ?_⟩
   ·
    first
    | exact True.intro
    | exact ⟨hc.1, hc.2.1, by omega⟩
    | (have w0 := wr_i64 (((Sy.rows l).length : Int) - 20)
       exact ⟨hc.1, by omega, hc.2.2⟩)
    | exact ⟨hc.1, by rw [wrap_u8]; omega, by rw [wrap_u8]; omega⟩
   ·
    refine ⟨?_, fun h2 => ?_⟩
    ·
     first
     | exact True.intro
     | exact ⟨hc.1, hc.2.1, by omega⟩
     | (have w0 := wr_i64 (((Sy.rows l).length : Int) - 20)
        exact ⟨hc.1, by omega, hc.2.2⟩)
     | exact ⟨hc.1, by rw [wrap_u8]; omega, by rw [wrap_u8]; omega⟩
    ·
     refine ⟨?_, fun h3 => ?_⟩
     ·
      first
      | exact True.intro
      | exact ⟨hc.1, hc.2.1, by omega⟩
      | (have w0 := wr_i64 (((Sy.rows l).length : Int) - 20)
         exact ⟨hc.1, by omega, hc.2.2⟩)
      | exact ⟨hc.1, by rw [wrap_u8]; omega, by rw [wrap_u8]; omega⟩
     ·
      refine ⟨?_, fun h4 => ?_⟩
      ·
       first
       | exact True.intro
       | exact ⟨hc.1, hc.2.1, by omega⟩
       | (have w0 := wr_i64 (((Sy.rows l).length : Int) - 20)
          exact ⟨hc.1, by omega, hc.2.2⟩)
       | exact ⟨hc.1, by rw [wrap_u8]; omega, by rw [wrap_u8]; omega⟩
      ·
       refine ⟨?_, fun h5 => ?_⟩
       ·
        first
        | exact True.intro
        | exact ⟨hc.1, hc.2.1, by omega⟩
        | (have w0 := wr_i64 (((Sy.rows l).length : Int) - 20)
           exact ⟨hc.1, by omega, hc.2.2⟩)
        | exact ⟨hc.1, by rw [wrap_u8]; omega, by rw [wrap_u8]; omega⟩
       ·
        refine ⟨?_, fun h6 => ?_⟩
        ·
         first
         | exact True.intro
         | exact ⟨hc.1, hc.2.1, by omega⟩
         | (have w0 := wr_i64 (((Sy.rows l).length : Int) - 20)
            exact ⟨hc.1, by omega, hc.2.2⟩)
         | exact ⟨hc.1, by rw [wrap_u8]; omega, by rw [wrap_u8]; omega⟩
        ·
         first
         | exact True.intro
         | rfl
theorem zsg_wSums : zsc_wSums.Good Try.prog syG (zsE [] [] [] []) := good_of_walk (Γ := ⟨[zsc_sure23, zqc_psum, zqc_rsum23, zrc_pnum, zrc_rnum23, zsc_pder, zsc_rder], syG, [], [], []⟩) (ρ := zsE [] [] [] []) sym wSums_w rfl (fun _ _ _ _ => (ok_cons (Con.Good.env zsg_sure23 _ _ _ _) (ok_cons (Con.Good.env (Con.Good.up (Con.Good.up zqg_psum zrup rfl) zsup rfl) _ _ _ _) (ok_cons (Con.Good.env (Con.Good.up (Con.Good.up zqg_rsum23 zrup rfl) zsup rfl) _ _ _ _) (ok_cons (Con.Good.env (Con.Good.up zrg_pnum zsup rfl) _ _ _ _) (ok_cons (Con.Good.env (Con.Good.up zrg_rnum23 zsup rfl) _ _ _ _) (ok_cons (Con.Good.env zsg_pder _ _ _ _) (ok_cons (Con.Good.env zsg_rder _ _ _ _) ok_nil)))))))) (fun k0 k1 k2 k3 k4 k5 k6 k7 k8 k9 k10 k11 k12 k13 k14 k15 n l hc hty => wSums_h k0 k1 k2 k3 k4 k5 k6 k7 k8 k9 k10 k11 k12 k13 k14 k15 n l hc hty)
def wWithin_tree : Tree :=
 (.loop ⟨1, 0, 1, 0⟩ (an_ (le_ (.lit 0) (.lit 0)) (an_ (le_ (.lit 0) (.ofI (.vop (.len 1) (.cons o0_ .nil)))) (an_ (le_ (.lit 0) (.lit 60)) (.bapp 3 (.cons (.tup .nil) (.cons (.vapp 12 (.cons (.tup (.cons (.int .u8 v0_) (.cons (.int .u8 v1_) (.cons (.int .u8 v2_) (.cons (.int .u8 v3_) (.cons (.int .u8 v4_) (.cons (.int .u8 v5_) (.cons (.int .u8 v6_) (.cons (.int .u8 v7_) (.cons (.int .u8 v8_) (.cons (.int .u8 v9_) (.cons (.int .u8 (.var 10)) (.cons (.int .u8 (.var 11)) (.cons (.int .u8 (.var 12)) (.cons (.int .u8 (.var 13)) (.cons (.int .u8 (.var 14)) (.cons (.int .u8 (.var 15)) .nil))))))))))))))))) (.cons o0_ (.cons (.int .u64 (.var 16)) (.cons (.int .i64 (.lit 0)) .nil))))) .nil)))))) (an_ (le_ (.lit 0) (.var 17)) (an_ (le_ (.var 17) (.ofI (.vop (.len 1) (.cons o0_ .nil)))) (an_ (le_ (.var 17) (.lit 60)) (.bapp 3 (.cons o1_ (.cons (.vapp 12 (.cons (.tup (.cons (.int .u8 v0_) (.cons (.int .u8 v1_) (.cons (.int .u8 v2_) (.cons (.int .u8 v3_) (.cons (.int .u8 v4_) (.cons (.int .u8 v5_) (.cons (.int .u8 v6_) (.cons (.int .u8 v7_) (.cons (.int .u8 v8_) (.cons (.int .u8 v9_) (.cons (.int .u8 (.var 10)) (.cons (.int .u8 (.var 11)) (.cons (.int .u8 (.var 12)) (.cons (.int .u8 (.var 13)) (.cons (.int .u8 (.var 14)) (.cons (.int .u8 (.var 15)) .nil))))))))))))))))) (.cons o0_ (.cons (.int .u64 (.var 16)) (.cons (.int .i64 (.var 17)) .nil))))) .nil))))))
 (.br (lt_ (.var 17) (.ofI (.vop (.len 1) (.cons o0_ .nil))))
 (.br (lt_ (.var 17) (.lit 60))
 (.need (an_ (le_ (.lit 0) (.var 17)) (lt_ (.var 17) (.ofI (.vop (.len 1) (.cons o0_ .nil)))))
 (.need (an_ (.bapp 0 (.cons (.tup (.cons (.int .u8 v0_) (.cons (.int .u8 v1_) (.cons (.int .u8 v2_) (.cons (.int .u8 v3_) (.cons (.int .u8 v4_) (.cons (.int .u8 v5_) (.cons (.int .u8 v6_) (.cons (.int .u8 v7_) (.cons (.int .u8 v8_) (.cons (.int .u8 v9_) (.cons (.int .u8 (.var 10)) (.cons (.int .u8 (.var 11)) (.cons (.int .u8 (.var 12)) (.cons (.int .u8 (.var 13)) (.cons (.int .u8 (.var 14)) (.cons (.int .u8 (.var 15)) .nil))))))))))))))))) .nil)) (an_ (an_ (le_ lm_ (.ofI (.vop (.sel 1 0) (.cons o0_ (.cons (.int .i64 (.var 17)) .nil))))) (le_ (.ofI (.vop (.sel 1 0) (.cons o0_ (.cons (.int .i64 (.var 17)) .nil)))) lM_)) (an_ (le_ (.lit 0) (.var 16)) (le_ (.var 16) (.lit 18446744073709551615)))))
 (.br (lt_ (.var 16) (.iapp 17 (.cons (.tup (.cons (.int .u8 v0_) (.cons (.int .u8 v1_) (.cons (.int .u8 v2_) (.cons (.int .u8 v3_) (.cons (.int .u8 v4_) (.cons (.int .u8 v5_) (.cons (.int .u8 v6_) (.cons (.int .u8 v7_) (.cons (.int .u8 v8_) (.cons (.int .u8 v9_) (.cons (.int .u8 (.var 10)) (.cons (.int .u8 (.var 11)) (.cons (.int .u8 (.var 12)) (.cons (.int .u8 (.var 13)) (.cons (.int .u8 (.var 14)) (.cons (.int .u8 (.var 15)) .nil))))))))))))))))) (.cons (.int .i64 (.ofI (.vop (.sel 1 0) (.cons o0_ (.cons (.int .i64 (.var 17)) .nil))))) (.cons (.int .u64 (.var 16)) .nil)))))
 (.ret (.bool (.tt false)))
 (.need (an_ (le_ (.lit 0) (.var 17)) (lt_ (.var 17) (.ofI (.vop (.len 1) (.cons o0_ .nil)))))
 (.need (an_ (.bapp 0 (.cons (.tup (.cons (.int .u8 v0_) (.cons (.int .u8 v1_) (.cons (.int .u8 v2_) (.cons (.int .u8 v3_) (.cons (.int .u8 v4_) (.cons (.int .u8 v5_) (.cons (.int .u8 v6_) (.cons (.int .u8 v7_) (.cons (.int .u8 v8_) (.cons (.int .u8 v9_) (.cons (.int .u8 (.var 10)) (.cons (.int .u8 (.var 11)) (.cons (.int .u8 (.var 12)) (.cons (.int .u8 (.var 13)) (.cons (.int .u8 (.var 14)) (.cons (.int .u8 (.var 15)) .nil))))))))))))))))) .nil)) (an_ (le_ lm_ (.ofI (.vop (.sel 1 0) (.cons o0_ (.cons (.int .i64 (.var 17)) .nil))))) (le_ (.ofI (.vop (.sel 1 0) (.cons o0_ (.cons (.int .i64 (.var 17)) .nil)))) lM_)))
 (.br (.not (eq_ (.iapp 17 (.cons (.tup (.cons (.int .u8 v0_) (.cons (.int .u8 v1_) (.cons (.int .u8 v2_) (.cons (.int .u8 v3_) (.cons (.int .u8 v4_) (.cons (.int .u8 v5_) (.cons (.int .u8 v6_) (.cons (.int .u8 v7_) (.cons (.int .u8 v8_) (.cons (.int .u8 v9_) (.cons (.int .u8 (.var 10)) (.cons (.int .u8 (.var 11)) (.cons (.int .u8 (.var 12)) (.cons (.int .u8 (.var 13)) (.cons (.int .u8 (.var 14)) (.cons (.int .u8 (.var 15)) .nil))))))))))))))))) (.cons (.int .i64 (.ofI (.vop (.sel 1 0) (.cons o0_ (.cons (.int .i64 (.var 17)) .nil))))) (.cons (.int .u64 (.lit 0)) .nil)))) (.lit 0)))
 (.ret (.bool (.tt false)))
 (.need (le_ (ad_ (.ofI (.vop (.len 1) (.cons o1_ .nil))) (.lit 1)) (.lit 17592186044416))
 (.back (an_ (le_ (.lit 0) (wr_ (ad_ (.var 17) (.lit 1)))) (an_ (le_ (wr_ (ad_ (.var 17) (.lit 1))) (.ofI (.vop (.len 1) (.cons o0_ .nil)))) (an_ (le_ (wr_ (ad_ (.var 17) (.lit 1))) (.lit 60)) (.bapp 3 (.cons (.vop .cat (.cons o1_ (.cons (.tup (.cons (.int .u64 (.iapp 17 (.cons (.tup (.cons (.int .u8 v0_) (.cons (.int .u8 v1_) (.cons (.int .u8 v2_) (.cons (.int .u8 v3_) (.cons (.int .u8 v4_) (.cons (.int .u8 v5_) (.cons (.int .u8 v6_) (.cons (.int .u8 v7_) (.cons (.int .u8 v8_) (.cons (.int .u8 v9_) (.cons (.int .u8 (.var 10)) (.cons (.int .u8 (.var 11)) (.cons (.int .u8 (.var 12)) (.cons (.int .u8 (.var 13)) (.cons (.int .u8 (.var 14)) (.cons (.int .u8 (.var 15)) .nil))))))))))))))))) (.cons (.int .i64 (.ofI (.vop (.sel 1 0) (.cons o0_ (.cons (.int .i64 (.var 17)) .nil))))) (.cons (.int .u64 (.var 16)) .nil))))) .nil)) .nil))) (.cons (.vapp 12 (.cons (.tup (.cons (.int .u8 v0_) (.cons (.int .u8 v1_) (.cons (.int .u8 v2_) (.cons (.int .u8 v3_) (.cons (.int .u8 v4_) (.cons (.int .u8 v5_) (.cons (.int .u8 v6_) (.cons (.int .u8 v7_) (.cons (.int .u8 v8_) (.cons (.int .u8 v9_) (.cons (.int .u8 (.var 10)) (.cons (.int .u8 (.var 11)) (.cons (.int .u8 (.var 12)) (.cons (.int .u8 (.var 13)) (.cons (.int .u8 (.var 14)) (.cons (.int .u8 (.var 15)) .nil))))))))))))))))) (.cons o0_ (.cons (.int .u64 (.var 16)) (.cons (.int .i64 (wr_ (ad_ (.var 17) (.lit 1)))) .nil))))) .nil)))))) (sb_ (.ofI (.vop (.len 1) (.cons o0_ .nil))) (wr_ (ad_ (.var 17) (.lit 1)))) (sb_ (.ofI (.vop (.len 1) (.cons o0_ .nil))) (.var 17))))))))))
 (.loop ⟨1, 0, 0, 0⟩ (an_ (le_ (.lit 0) (.lit 0)) (le_ (.lit 0) (.ofI (.vop (.len 1) (.cons o1_ .nil))))) (an_ (le_ (.lit 0) (.var 18)) (le_ (.var 18) (.ofI (.vop (.len 1) (.cons o1_ .nil)))))
 (.br (lt_ (.var 18) (.ofI (.vop (.len 1) (.cons o1_ .nil))))
 (.need (an_ (le_ (.lit 0) (.var 18)) (lt_ (.var 18) (.ofI (.vop (.len 1) (.cons o0_ .nil)))))
 (.need (an_ (le_ (.lit 0) (.var 18)) (lt_ (.var 18) (.ofI (.vop (.len 1) (.cons o0_ .nil)))))
 (.need (an_ (.bapp 0 (.cons (.tup (.cons (.int .u8 v0_) (.cons (.int .u8 v1_) (.cons (.int .u8 v2_) (.cons (.int .u8 v3_) (.cons (.int .u8 v4_) (.cons (.int .u8 v5_) (.cons (.int .u8 v6_) (.cons (.int .u8 v7_) (.cons (.int .u8 v8_) (.cons (.int .u8 v9_) (.cons (.int .u8 (.var 10)) (.cons (.int .u8 (.var 11)) (.cons (.int .u8 (.var 12)) (.cons (.int .u8 (.var 13)) (.cons (.int .u8 (.var 14)) (.cons (.int .u8 (.var 15)) .nil))))))))))))))))) .nil)) (an_ (an_ (le_ lm_ (.ofI (.vop (.sel 1 0) (.cons o0_ (.cons (.int .i64 (.var 18)) .nil))))) (le_ (.ofI (.vop (.sel 1 0) (.cons o0_ (.cons (.int .i64 (.var 18)) .nil)))) lM_)) (an_ (le_ (.lit 0) (.var 16)) (le_ (.var 16) (.lit 18446744073709551615)))))
 (.need (an_ (le_ (.lit 0) (.var 18)) (lt_ (.var 18) (.ofI (.vop (.len 1) (.cons o1_ .nil)))))
 (.br (.not (eq_ (.iapp 17 (.cons (.tup (.cons (.int .u8 v0_) (.cons (.int .u8 v1_) (.cons (.int .u8 v2_) (.cons (.int .u8 v3_) (.cons (.int .u8 v4_) (.cons (.int .u8 v5_) (.cons (.int .u8 v6_) (.cons (.int .u8 v7_) (.cons (.int .u8 v8_) (.cons (.int .u8 v9_) (.cons (.int .u8 (.var 10)) (.cons (.int .u8 (.var 11)) (.cons (.int .u8 (.var 12)) (.cons (.int .u8 (.var 13)) (.cons (.int .u8 (.var 14)) (.cons (.int .u8 (.var 15)) .nil))))))))))))))))) (.cons (.int .i64 (.ofI (.vop (.sel 1 0) (.cons o0_ (.cons (.int .i64 (.var 18)) .nil))))) (.cons (.int .u64 (.var 16)) .nil)))) (.ofI (.vop (.sel 1 0) (.cons o1_ (.cons (.int .i64 (.var 18)) .nil))))))
 (.ret (.bool (.tt false)))
 (.need (an_ (le_ (.lit 0) (.var 18)) (lt_ (.var 18) (.ofI (.vop (.len 1) (.cons o0_ .nil)))))
 (.need (an_ (.bapp 0 (.cons (.tup (.cons (.int .u8 v0_) (.cons (.int .u8 v1_) (.cons (.int .u8 v2_) (.cons (.int .u8 v3_) (.cons (.int .u8 v4_) (.cons (.int .u8 v5_) (.cons (.int .u8 v6_) (.cons (.int .u8 v7_) (.cons (.int .u8 v8_) (.cons (.int .u8 v9_) (.cons (.int .u8 (.var 10)) (.cons (.int .u8 (.var 11)) (.cons (.int .u8 (.var 12)) (.cons (.int .u8 (.var 13)) (.cons (.int .u8 (.var 14)) (.cons (.int .u8 (.var 15)) .nil))))))))))))))))) .nil)) (an_ (le_ lm_ (.ofI (.vop (.sel 1 0) (.cons o0_ (.cons (.int .i64 (.var 18)) .nil))))) (le_ (.ofI (.vop (.sel 1 0) (.cons o0_ (.cons (.int .i64 (.var 18)) .nil)))) lM_)))
 (.need (an_ (.bapp 0 (.cons (.tup (.cons (.int .u8 v0_) (.cons (.int .u8 v1_) (.cons (.int .u8 v2_) (.cons (.int .u8 v3_) (.cons (.int .u8 v4_) (.cons (.int .u8 v5_) (.cons (.int .u8 v6_) (.cons (.int .u8 v7_) (.cons (.int .u8 v8_) (.cons (.int .u8 v9_) (.cons (.int .u8 (.var 10)) (.cons (.int .u8 (.var 11)) (.cons (.int .u8 (.var 12)) (.cons (.int .u8 (.var 13)) (.cons (.int .u8 (.var 14)) (.cons (.int .u8 (.var 15)) .nil))))))))))))))))) .nil)) (an_ (.bapp 0 (.cons (.tup (.cons (.int .u8 (.wrap .u8 (.wrap .u64 (.ofI (.vop (.sel 1 0) (.cons o0_ (.cons (.int .i64 (.var 18)) .nil))))))) (.cons (.int .u8 (.wrap .u8 (.i2 (.shr .u64) (.wrap .u64 (.ofI (.vop (.sel 1 0) (.cons o0_ (.cons (.int .i64 (.var 18)) .nil))))) (.lit 8)))) (.cons (.int .u8 (.wrap .u8 (.i2 (.shr .u64) (.wrap .u64 (.ofI (.vop (.sel 1 0) (.cons o0_ (.cons (.int .i64 (.var 18)) .nil))))) (.lit 16)))) (.cons (.int .u8 (.wrap .u8 (.i2 (.shr .u64) (.wrap .u64 (.ofI (.vop (.sel 1 0) (.cons o0_ (.cons (.int .i64 (.var 18)) .nil))))) (.lit 24)))) (.cons (.int .u8 (.wrap .u8 (.i2 (.shr .u64) (.wrap .u64 (.ofI (.vop (.sel 1 0) (.cons o0_ (.cons (.int .i64 (.var 18)) .nil))))) (.lit 32)))) (.cons (.int .u8 (.wrap .u8 (.i2 (.shr .u64) (.wrap .u64 (.ofI (.vop (.sel 1 0) (.cons o0_ (.cons (.int .i64 (.var 18)) .nil))))) (.lit 40)))) (.cons (.int .u8 (.wrap .u8 (.i2 (.shr .u64) (.wrap .u64 (.ofI (.vop (.sel 1 0) (.cons o0_ (.cons (.int .i64 (.var 18)) .nil))))) (.lit 48)))) (.cons (.int .u8 (.wrap .u8 (.i2 (.shr .u64) (.wrap .u64 (.ofI (.vop (.sel 1 0) (.cons o0_ (.cons (.int .i64 (.var 18)) .nil))))) (.lit 56)))) .nil))))))))) .nil)) (le_ (.ofI (.vop (.len 1) (.cons (.tup (.cons (.int .u8 (.wrap .u8 (.wrap .u64 (.ofI (.vop (.sel 1 0) (.cons o0_ (.cons (.int .i64 (.var 18)) .nil))))))) (.cons (.int .u8 (.wrap .u8 (.i2 (.shr .u64) (.wrap .u64 (.ofI (.vop (.sel 1 0) (.cons o0_ (.cons (.int .i64 (.var 18)) .nil))))) (.lit 8)))) (.cons (.int .u8 (.wrap .u8 (.i2 (.shr .u64) (.wrap .u64 (.ofI (.vop (.sel 1 0) (.cons o0_ (.cons (.int .i64 (.var 18)) .nil))))) (.lit 16)))) (.cons (.int .u8 (.wrap .u8 (.i2 (.shr .u64) (.wrap .u64 (.ofI (.vop (.sel 1 0) (.cons o0_ (.cons (.int .i64 (.var 18)) .nil))))) (.lit 24)))) (.cons (.int .u8 (.wrap .u8 (.i2 (.shr .u64) (.wrap .u64 (.ofI (.vop (.sel 1 0) (.cons o0_ (.cons (.int .i64 (.var 18)) .nil))))) (.lit 32)))) (.cons (.int .u8 (.wrap .u8 (.i2 (.shr .u64) (.wrap .u64 (.ofI (.vop (.sel 1 0) (.cons o0_ (.cons (.int .i64 (.var 18)) .nil))))) (.lit 40)))) (.cons (.int .u8 (.wrap .u8 (.i2 (.shr .u64) (.wrap .u64 (.ofI (.vop (.sel 1 0) (.cons o0_ (.cons (.int .i64 (.var 18)) .nil))))) (.lit 48)))) (.cons (.int .u8 (.wrap .u8 (.i2 (.shr .u64) (.wrap .u64 (.ofI (.vop (.sel 1 0) (.cons o0_ (.cons (.int .i64 (.var 18)) .nil))))) (.lit 56)))) .nil))))))))) .nil))) (.lit 70368744177664))))
 (.br (.not (eq_ (.iapp 17 (.cons (.tup (.cons (.int .u8 v0_) (.cons (.int .u8 v1_) (.cons (.int .u8 v2_) (.cons (.int .u8 v3_) (.cons (.int .u8 v4_) (.cons (.int .u8 v5_) (.cons (.int .u8 v6_) (.cons (.int .u8 v7_) (.cons (.int .u8 v8_) (.cons (.int .u8 v9_) (.cons (.int .u8 (.var 10)) (.cons (.int .u8 (.var 11)) (.cons (.int .u8 (.var 12)) (.cons (.int .u8 (.var 13)) (.cons (.int .u8 (.var 14)) (.cons (.int .u8 (.var 15)) .nil))))))))))))))))) (.cons (.int .i64 (.ofI (.vop (.sel 1 0) (.cons o0_ (.cons (.int .i64 (.var 18)) .nil))))) (.cons (.int .u64 (.lit 18446744073709551615)) .nil)))) (.iapp 16 (.cons (.tup (.cons (.int .u8 v0_) (.cons (.int .u8 v1_) (.cons (.int .u8 v2_) (.cons (.int .u8 v3_) (.cons (.int .u8 v4_) (.cons (.int .u8 v5_) (.cons (.int .u8 v6_) (.cons (.int .u8 v7_) (.cons (.int .u8 v8_) (.cons (.int .u8 v9_) (.cons (.int .u8 (.var 10)) (.cons (.int .u8 (.var 11)) (.cons (.int .u8 (.var 12)) (.cons (.int .u8 (.var 13)) (.cons (.int .u8 (.var 14)) (.cons (.int .u8 (.var 15)) .nil))))))))))))))))) (.cons (.tup (.cons (.int .u8 (.wrap .u8 (.wrap .u64 (.ofI (.vop (.sel 1 0) (.cons o0_ (.cons (.int .i64 (.var 18)) .nil))))))) (.cons (.int .u8 (.wrap .u8 (.i2 (.shr .u64) (.wrap .u64 (.ofI (.vop (.sel 1 0) (.cons o0_ (.cons (.int .i64 (.var 18)) .nil))))) (.lit 8)))) (.cons (.int .u8 (.wrap .u8 (.i2 (.shr .u64) (.wrap .u64 (.ofI (.vop (.sel 1 0) (.cons o0_ (.cons (.int .i64 (.var 18)) .nil))))) (.lit 16)))) (.cons (.int .u8 (.wrap .u8 (.i2 (.shr .u64) (.wrap .u64 (.ofI (.vop (.sel 1 0) (.cons o0_ (.cons (.int .i64 (.var 18)) .nil))))) (.lit 24)))) (.cons (.int .u8 (.wrap .u8 (.i2 (.shr .u64) (.wrap .u64 (.ofI (.vop (.sel 1 0) (.cons o0_ (.cons (.int .i64 (.var 18)) .nil))))) (.lit 32)))) (.cons (.int .u8 (.wrap .u8 (.i2 (.shr .u64) (.wrap .u64 (.ofI (.vop (.sel 1 0) (.cons o0_ (.cons (.int .i64 (.var 18)) .nil))))) (.lit 40)))) (.cons (.int .u8 (.wrap .u8 (.i2 (.shr .u64) (.wrap .u64 (.ofI (.vop (.sel 1 0) (.cons o0_ (.cons (.int .i64 (.var 18)) .nil))))) (.lit 48)))) (.cons (.int .u8 (.wrap .u8 (.i2 (.shr .u64) (.wrap .u64 (.ofI (.vop (.sel 1 0) (.cons o0_ (.cons (.int .i64 (.var 18)) .nil))))) (.lit 56)))) .nil))))))))) .nil)))))
 (.ret (.bool (.tt false)))
 (.back (an_ (le_ (.lit 0) (wr_ (ad_ (.var 18) (.lit 1)))) (le_ (wr_ (ad_ (.var 18) (.lit 1))) (.ofI (.vop (.len 1) (.cons o1_ .nil))))) (sb_ (.ofI (.vop (.len 1) (.cons o1_ .nil))) (wr_ (ad_ (.var 18) (.lit 1)))) (sb_ (.ofI (.vop (.len 1) (.cons o1_ .nil))) (.var 18))))))))))))
 (.ret (.bool (.tt true))))))
 (.loop ⟨1, 0, 0, 0⟩ (an_ (le_ (.lit 0) (.lit 0)) (le_ (.lit 0) (.ofI (.vop (.len 1) (.cons o1_ .nil))))) (an_ (le_ (.lit 0) (.var 18)) (le_ (.var 18) (.ofI (.vop (.len 1) (.cons o1_ .nil)))))
 (.br (lt_ (.var 18) (.ofI (.vop (.len 1) (.cons o1_ .nil))))
 (.need (an_ (le_ (.lit 0) (.var 18)) (lt_ (.var 18) (.ofI (.vop (.len 1) (.cons o0_ .nil)))))
 (.need (an_ (le_ (.lit 0) (.var 18)) (lt_ (.var 18) (.ofI (.vop (.len 1) (.cons o0_ .nil)))))
 (.need (an_ (.bapp 0 (.cons (.tup (.cons (.int .u8 v0_) (.cons (.int .u8 v1_) (.cons (.int .u8 v2_) (.cons (.int .u8 v3_) (.cons (.int .u8 v4_) (.cons (.int .u8 v5_) (.cons (.int .u8 v6_) (.cons (.int .u8 v7_) (.cons (.int .u8 v8_) (.cons (.int .u8 v9_) (.cons (.int .u8 (.var 10)) (.cons (.int .u8 (.var 11)) (.cons (.int .u8 (.var 12)) (.cons (.int .u8 (.var 13)) (.cons (.int .u8 (.var 14)) (.cons (.int .u8 (.var 15)) .nil))))))))))))))))) .nil)) (an_ (an_ (le_ lm_ (.ofI (.vop (.sel 1 0) (.cons o0_ (.cons (.int .i64 (.var 18)) .nil))))) (le_ (.ofI (.vop (.sel 1 0) (.cons o0_ (.cons (.int .i64 (.var 18)) .nil)))) lM_)) (an_ (le_ (.lit 0) (.var 16)) (le_ (.var 16) (.lit 18446744073709551615)))))
 (.need (an_ (le_ (.lit 0) (.var 18)) (lt_ (.var 18) (.ofI (.vop (.len 1) (.cons o1_ .nil)))))
 (.br (.not (eq_ (.iapp 17 (.cons (.tup (.cons (.int .u8 v0_) (.cons (.int .u8 v1_) (.cons (.int .u8 v2_) (.cons (.int .u8 v3_) (.cons (.int .u8 v4_) (.cons (.int .u8 v5_) (.cons (.int .u8 v6_) (.cons (.int .u8 v7_) (.cons (.int .u8 v8_) (.cons (.int .u8 v9_) (.cons (.int .u8 (.var 10)) (.cons (.int .u8 (.var 11)) (.cons (.int .u8 (.var 12)) (.cons (.int .u8 (.var 13)) (.cons (.int .u8 (.var 14)) (.cons (.int .u8 (.var 15)) .nil))))))))))))))))) (.cons (.int .i64 (.ofI (.vop (.sel 1 0) (.cons o0_ (.cons (.int .i64 (.var 18)) .nil))))) (.cons (.int .u64 (.var 16)) .nil)))) (.ofI (.vop (.sel 1 0) (.cons o1_ (.cons (.int .i64 (.var 18)) .nil))))))
 (.ret (.bool (.tt false)))
 (.need (an_ (le_ (.lit 0) (.var 18)) (lt_ (.var 18) (.ofI (.vop (.len 1) (.cons o0_ .nil)))))
 (.need (an_ (.bapp 0 (.cons (.tup (.cons (.int .u8 v0_) (.cons (.int .u8 v1_) (.cons (.int .u8 v2_) (.cons (.int .u8 v3_) (.cons (.int .u8 v4_) (.cons (.int .u8 v5_) (.cons (.int .u8 v6_) (.cons (.int .u8 v7_) (.cons (.int .u8 v8_) (.cons (.int .u8 v9_) (.cons (.int .u8 (.var 10)) (.cons (.int .u8 (.var 11)) (.cons (.int .u8 (.var 12)) (.cons (.int .u8 (.var 13)) (.cons (.int .u8 (.var 14)) (.cons (.int .u8 (.var 15)) .nil))))))))))))))))) .nil)) (an_ (le_ lm_ (.ofI (.vop (.sel 1 0) (.cons o0_ (.cons (.int .i64 (.var 18)) .nil))))) (le_ (.ofI (.vop (.sel 1 0) (.cons o0_ (.cons (.int .i64 (.var 18)) .nil)))) lM_)))
 (.need (an_ (.bapp 0 (.cons (.tup (.cons (.int .u8 v0_) (.cons (.int .u8 v1_) (.cons (.int .u8 v2_) (.cons (.int .u8 v3_) (.cons (.int .u8 v4_) (.cons (.int .u8 v5_) (.cons (.int .u8 v6_) (.cons (.int .u8 v7_) (.cons (.int .u8 v8_) (.cons (.int .u8 v9_) (.cons (.int .u8 (.var 10)) (.cons (.int .u8 (.var 11)) (.cons (.int .u8 (.var 12)) (.cons (.int .u8 (.var 13)) (.cons (.int .u8 (.var 14)) (.cons (.int .u8 (.var 15)) .nil))))))))))))))))) .nil)) (an_ (.bapp 0 (.cons (.tup (.cons (.int .u8 (.wrap .u8 (.wrap .u64 (.ofI (.vop (.sel 1 0) (.cons o0_ (.cons (.int .i64 (.var 18)) .nil))))))) (.cons (.int .u8 (.wrap .u8 (.i2 (.shr .u64) (.wrap .u64 (.ofI (.vop (.sel 1 0) (.cons o0_ (.cons (.int .i64 (.var 18)) .nil))))) (.lit 8)))) (.cons (.int .u8 (.wrap .u8 (.i2 (.shr .u64) (.wrap .u64 (.ofI (.vop (.sel 1 0) (.cons o0_ (.cons (.int .i64 (.var 18)) .nil))))) (.lit 16)))) (.cons (.int .u8 (.wrap .u8 (.i2 (.shr .u64) (.wrap .u64 (.ofI (.vop (.sel 1 0) (.cons o0_ (.cons (.int .i64 (.var 18)) .nil))))) (.lit 24)))) (.cons (.int .u8 (.wrap .u8 (.i2 (.shr .u64) (.wrap .u64 (.ofI (.vop (.sel 1 0) (.cons o0_ (.cons (.int .i64 (.var 18)) .nil))))) (.lit 32)))) (.cons (.int .u8 (.wrap .u8 (.i2 (.shr .u64) (.wrap .u64 (.ofI (.vop (.sel 1 0) (.cons o0_ (.cons (.int .i64 (.var 18)) .nil))))) (.lit 40)))) (.cons (.int .u8 (.wrap .u8 (.i2 (.shr .u64) (.wrap .u64 (.ofI (.vop (.sel 1 0) (.cons o0_ (.cons (.int .i64 (.var 18)) .nil))))) (.lit 48)))) (.cons (.int .u8 (.wrap .u8 (.i2 (.shr .u64) (.wrap .u64 (.ofI (.vop (.sel 1 0) (.cons o0_ (.cons (.int .i64 (.var 18)) .nil))))) (.lit 56)))) .nil))))))))) .nil)) (le_ (.ofI (.vop (.len 1) (.cons (.tup (.cons (.int .u8 (.wrap .u8 (.wrap .u64 (.ofI (.vop (.sel 1 0) (.cons o0_ (.cons (.int .i64 (.var 18)) .nil))))))) (.cons (.int .u8 (.wrap .u8 (.i2 (.shr .u64) (.wrap .u64 (.ofI (.vop (.sel 1 0) (.cons o0_ (.cons (.int .i64 (.var 18)) .nil))))) (.lit 8)))) (.cons (.int .u8 (.wrap .u8 (.i2 (.shr .u64) (.wrap .u64 (.ofI (.vop (.sel 1 0) (.cons o0_ (.cons (.int .i64 (.var 18)) .nil))))) (.lit 16)))) (.cons (.int .u8 (.wrap .u8 (.i2 (.shr .u64) (.wrap .u64 (.ofI (.vop (.sel 1 0) (.cons o0_ (.cons (.int .i64 (.var 18)) .nil))))) (.lit 24)))) (.cons (.int .u8 (.wrap .u8 (.i2 (.shr .u64) (.wrap .u64 (.ofI (.vop (.sel 1 0) (.cons o0_ (.cons (.int .i64 (.var 18)) .nil))))) (.lit 32)))) (.cons (.int .u8 (.wrap .u8 (.i2 (.shr .u64) (.wrap .u64 (.ofI (.vop (.sel 1 0) (.cons o0_ (.cons (.int .i64 (.var 18)) .nil))))) (.lit 40)))) (.cons (.int .u8 (.wrap .u8 (.i2 (.shr .u64) (.wrap .u64 (.ofI (.vop (.sel 1 0) (.cons o0_ (.cons (.int .i64 (.var 18)) .nil))))) (.lit 48)))) (.cons (.int .u8 (.wrap .u8 (.i2 (.shr .u64) (.wrap .u64 (.ofI (.vop (.sel 1 0) (.cons o0_ (.cons (.int .i64 (.var 18)) .nil))))) (.lit 56)))) .nil))))))))) .nil))) (.lit 70368744177664))))
 (.br (.not (eq_ (.iapp 17 (.cons (.tup (.cons (.int .u8 v0_) (.cons (.int .u8 v1_) (.cons (.int .u8 v2_) (.cons (.int .u8 v3_) (.cons (.int .u8 v4_) (.cons (.int .u8 v5_) (.cons (.int .u8 v6_) (.cons (.int .u8 v7_) (.cons (.int .u8 v8_) (.cons (.int .u8 v9_) (.cons (.int .u8 (.var 10)) (.cons (.int .u8 (.var 11)) (.cons (.int .u8 (.var 12)) (.cons (.int .u8 (.var 13)) (.cons (.int .u8 (.var 14)) (.cons (.int .u8 (.var 15)) .nil))))))))))))))))) (.cons (.int .i64 (.ofI (.vop (.sel 1 0) (.cons o0_ (.cons (.int .i64 (.var 18)) .nil))))) (.cons (.int .u64 (.lit 18446744073709551615)) .nil)))) (.iapp 16 (.cons (.tup (.cons (.int .u8 v0_) (.cons (.int .u8 v1_) (.cons (.int .u8 v2_) (.cons (.int .u8 v3_) (.cons (.int .u8 v4_) (.cons (.int .u8 v5_) (.cons (.int .u8 v6_) (.cons (.int .u8 v7_) (.cons (.int .u8 v8_) (.cons (.int .u8 v9_) (.cons (.int .u8 (.var 10)) (.cons (.int .u8 (.var 11)) (.cons (.int .u8 (.var 12)) (.cons (.int .u8 (.var 13)) (.cons (.int .u8 (.var 14)) (.cons (.int .u8 (.var 15)) .nil))))))))))))))))) (.cons (.tup (.cons (.int .u8 (.wrap .u8 (.wrap .u64 (.ofI (.vop (.sel 1 0) (.cons o0_ (.cons (.int .i64 (.var 18)) .nil))))))) (.cons (.int .u8 (.wrap .u8 (.i2 (.shr .u64) (.wrap .u64 (.ofI (.vop (.sel 1 0) (.cons o0_ (.cons (.int .i64 (.var 18)) .nil))))) (.lit 8)))) (.cons (.int .u8 (.wrap .u8 (.i2 (.shr .u64) (.wrap .u64 (.ofI (.vop (.sel 1 0) (.cons o0_ (.cons (.int .i64 (.var 18)) .nil))))) (.lit 16)))) (.cons (.int .u8 (.wrap .u8 (.i2 (.shr .u64) (.wrap .u64 (.ofI (.vop (.sel 1 0) (.cons o0_ (.cons (.int .i64 (.var 18)) .nil))))) (.lit 24)))) (.cons (.int .u8 (.wrap .u8 (.i2 (.shr .u64) (.wrap .u64 (.ofI (.vop (.sel 1 0) (.cons o0_ (.cons (.int .i64 (.var 18)) .nil))))) (.lit 32)))) (.cons (.int .u8 (.wrap .u8 (.i2 (.shr .u64) (.wrap .u64 (.ofI (.vop (.sel 1 0) (.cons o0_ (.cons (.int .i64 (.var 18)) .nil))))) (.lit 40)))) (.cons (.int .u8 (.wrap .u8 (.i2 (.shr .u64) (.wrap .u64 (.ofI (.vop (.sel 1 0) (.cons o0_ (.cons (.int .i64 (.var 18)) .nil))))) (.lit 48)))) (.cons (.int .u8 (.wrap .u8 (.i2 (.shr .u64) (.wrap .u64 (.ofI (.vop (.sel 1 0) (.cons o0_ (.cons (.int .i64 (.var 18)) .nil))))) (.lit 56)))) .nil))))))))) .nil)))))
 (.ret (.bool (.tt false)))
 (.back (an_ (le_ (.lit 0) (wr_ (ad_ (.var 18) (.lit 1)))) (le_ (wr_ (ad_ (.var 18) (.lit 1))) (.ofI (.vop (.len 1) (.cons o1_ .nil))))) (sb_ (.ofI (.vop (.len 1) (.cons o1_ .nil))) (wr_ (ad_ (.var 18) (.lit 1)))) (sb_ (.ofI (.vop (.len 1) (.cons o1_ .nil))) (.var 18))))))))))))
 (.ret (.bool (.tt true)))))))
abbrev zsc_wWithin : Con := ⟨4, [(.agg (.cons (.int .u8 v0_) (.cons (.int .u8 v1_) (.cons (.int .u8 v2_) (.cons (.int .u8 v3_) (.cons (.int .u8 v4_) (.cons (.int .u8 v5_) (.cons (.int .u8 v6_) (.cons (.int .u8 v7_) (.cons (.int .u8 v8_) (.cons (.int .u8 v9_) (.cons (.int .u8 (.var 10)) (.cons (.int .u8 (.var 11)) (.cons (.int .u8 (.var 12)) (.cons (.int .u8 (.var 13)) (.cons (.int .u8 (.var 14)) (.cons (.int .u8 (.var 15)) .nil))))))))))))))))), (.hs .no (.cons (.int .i64) .nil) o0_), (.int .u64 (.var 16))], (an_ (.bapp 0 (.cons (.tup (.cons (.int .u8 v0_) (.cons (.int .u8 v1_) (.cons (.int .u8 v2_) (.cons (.int .u8 v3_) (.cons (.int .u8 v4_) (.cons (.int .u8 v5_) (.cons (.int .u8 v6_) (.cons (.int .u8 v7_) (.cons (.int .u8 v8_) (.cons (.int .u8 v9_) (.cons (.int .u8 (.var 10)) (.cons (.int .u8 (.var 11)) (.cons (.int .u8 (.var 12)) (.cons (.int .u8 (.var 13)) (.cons (.int .u8 (.var 14)) (.cons (.int .u8 (.var 15)) .nil))))))))))))))))) .nil)) (an_ (.bapp 0 (.cons o0_ .nil)) (an_ (le_ (.lit 0) (.var 16)) (le_ (.var 16) (.lit 18446744073709551615))))), (.bool (.tt true)), ⟨17, 0, 1, 0⟩, none⟩
theorem wWithin_w : walk Try.prog 102 ⟨[zsc_sure23, zqc_psum, zrc_pnum], syG, [], [], []⟩ [⟨0, ⟨1, 0, 1, 0⟩, [(9, (.int .i64 (.var 17))), (8, (.hs (.id 1000 24) (.cons (.int .u64) .nil) o1_)), (6, (.bool (.tt false)))], none, (an_ (le_ (.lit 0) (.var 17)) (an_ (le_ (.var 17) (.ofI (.vop (.len 1) (.cons o0_ .nil)))) (an_ (le_ (.var 17) (.lit 60)) (.bapp 3 (.cons o1_ (.cons (.vapp 12 (.cons (.tup (.cons (.int .u8 v0_) (.cons (.int .u8 v1_) (.cons (.int .u8 v2_) (.cons (.int .u8 v3_) (.cons (.int .u8 v4_) (.cons (.int .u8 v5_) (.cons (.int .u8 v6_) (.cons (.int .u8 v7_) (.cons (.int .u8 v8_) (.cons (.int .u8 v9_) (.cons (.int .u8 (.var 10)) (.cons (.int .u8 (.var 11)) (.cons (.int .u8 (.var 12)) (.cons (.int .u8 (.var 13)) (.cons (.int .u8 (.var 14)) (.cons (.int .u8 (.var 15)) .nil))))))))))))))))) (.cons o0_ (.cons (.int .u64 (.var 16)) (.cons (.int .i64 (.var 17)) .nil))))) .nil)))))), (sb_ (.ofI (.vop (.len 1) (.cons o0_ .nil))) (.var 17)), 1, []⟩, ⟨2, ⟨1, 0, 0, 0⟩, [(11, (.int .i64 (.var 18))), (6, (.bool (.tt false)))], none, (an_ (le_ (.lit 0) (.var 18)) (le_ (.var 18) (.ofI (.vop (.len 1) (.cons o1_ .nil))))), (sb_ (.ofI (.vop (.len 1) (.cons o1_ .nil))) (.var 18)), 0, [2]⟩] .v zsc_wWithin zsc_wWithin.n 3000 = some wWithin_tree := by kernel_rfl
theorem wWithin_h (k0 : Int) (k1 : Int) (k2 : Int) (k3 : Int) (k4 : Int) (k5 : Int) (k6 : Int) (k7 : Int) (k8 : Int) (k9 : Int) (k10 : Int) (k11 : Int) (k12 : Int) (k13 : Int) (k14 : Int) (k15 : Int) (n : Int) (l : Value) (hc : holds (zsE [k0, k1, k2, k3, k4, k5, k6, k7, k8, k9, k10, k11, k12, k13, k14, k15, n] [] [l] []) (an_ (.bapp 0 (.cons (.tup (.cons (.int .u8 v0_) (.cons (.int .u8 v1_) (.cons (.int .u8 v2_) (.cons (.int .u8 v3_) (.cons (.int .u8 v4_) (.cons (.int .u8 v5_) (.cons (.int .u8 v6_) (.cons (.int .u8 v7_) (.cons (.int .u8 v8_) (.cons (.int .u8 v9_) (.cons (.int .u8 (.var 10)) (.cons (.int .u8 (.var 11)) (.cons (.int .u8 (.var 12)) (.cons (.int .u8 (.var 13)) (.cons (.int .u8 (.var 14)) (.cons (.int .u8 (.var 15)) .nil))))))))))))))))) .nil)) (an_ (.bapp 0 (.cons o0_ .nil)) (an_ (le_ (.lit 0) (.var 16)) (le_ (.var 16) (.lit 18446744073709551615)))))) (hty : patsTyp (zsE [k0, k1, k2, k3, k4, k5, k6, k7, k8, k9, k10, k11, k12, k13, k14, k15, n] [] [l] []) [(.agg (.cons (.int .u8 v0_) (.cons (.int .u8 v1_) (.cons (.int .u8 v2_) (.cons (.int .u8 v3_) (.cons (.int .u8 v4_) (.cons (.int .u8 v5_) (.cons (.int .u8 v6_) (.cons (.int .u8 v7_) (.cons (.int .u8 v8_) (.cons (.int .u8 v9_) (.cons (.int .u8 (.var 10)) (.cons (.int .u8 (.var 11)) (.cons (.int .u8 (.var 12)) (.cons (.int .u8 (.var 13)) (.cons (.int .u8 (.var 14)) (.cons (.int .u8 (.var 15)) .nil))))))))))))))))), (.hs .no (.cons (.int .i64) .nil) o0_), (.int .u64 (.var 16))]) : wWithin_tree.holds (fun v_ => v_ = denV (zsE [k0, k1, k2, k3, k4, k5, k6, k7, k8, k9, k10, k11, k12, k13, k14, k15, n] [] [l] []) b0 (.bool (.tt true))) (zsE [k0, k1, k2, k3, k4, k5, k6, k7, k8, k9, k10, k11, k12, k13, k14, k15, n] [] [l] []) := by
  simp only [Tree.holds, Sy.holds, AllN, Env.more, zsE, List.cons_append, List.nil_append, List.append_nil, denV, denI, denB, denL, I2.den, VOp.den, List.getD_cons_zero, List.getD_cons_succ, Cst.den, syso, syse, syio, sybo, zsb_okr, List.map_nil, List.map_cons, B2.ofInts, B2.denI, B2.denB, if_true, Bool.false_eq_true, if_false, Nat.div_one, Nat.mul_one, Nat.add_zero, holds] at hc
  simp only [patsTyp, patTyp, patTypL, zsE, denV, denL, List.getD_cons_zero, List.getD_cons_succ, and_true, true_and] at hty
  have hL_l : typ (.sl (.cons (.int .i64) .nil)) l := by first | exact hty | exact hty.1 | exact hty.2 | exact hty.1.1 | exact hty.1.2 | exact hty.2.1 | exact hty.2.2 | exact hty.2.2.1 | exact hty.2.2.2
  have hN_l := typ_len (n := 1) hL_l rfl (by omega)
  simp only [Nat.div_one, Nat.mul_one] at hN_l
  unfold wWithin_tree
  simp only [Tree.holds, Sy.holds, AllN, Env.more, zsE, List.cons_append, List.nil_append, List.append_nil, denV, denI, denB, denL, I2.den, VOp.den, List.getD_cons_zero, List.getD_cons_succ, Cst.den, syso, syse, syio, sybo, zsi_sip, zsi_nb, zsb_okr, zsb_eqv, zsv_wn, List.map_nil, List.map_cons, B2.ofInts, B2.denI, B2.denB, if_true, Bool.false_eq_true, if_false, Nat.div_one, Nat.mul_one, Nat.add_zero]
  generalize hKT : Value.tuple #[Value.int .u8 k0, Value.int .u8 k1, Value.int .u8 k2, Value.int .u8 k3, Value.int .u8 k4, Value.int .u8 k5, Value.int .u8 k6, Value.int .u8 k7, Value.int .u8 k8, Value.int .u8 k9, Value.int .u8 k10, Value.int .u8 k11, Value.int .u8 k12, Value.int .u8 k13, Value.int .u8 k14, Value.int .u8 k15] = KT at hc ⊢
  simp only [rows_arr, bytes8]
  refine ⟨?_, ?_⟩
  ·
   exact ⟨by omega, by omega, by omega, eqV_iff.2 rfl⟩
  ·
   intro i0a i0b hi0
   refine ⟨fun h0 => ?_, fun h0 => ?_⟩
   ·
    refine ⟨fun h1 => ?_, fun h1 => ?_⟩
    ·
     refine ⟨?_, fun h2 => ?_⟩
     ·
      first
      | exact True.intro
      | omega
      | (
         obtain ⟨a0, a1, a2, a3⟩ := hi0
         have a3 := eqV_iff.1 a3
         have hL : Sy.rows i0b = wnL (byL (Sy.rows KT)) (Sy.rows l) n i0a.toNat := by rw [a3, rows_arr]
         have hLl : (Sy.rows i0b).length = i0a.toNat := by rw [hL, wn_len]
         first
         | omega
         | (
            have hk : i0a.toNat < (Sy.rows l).length := by omega
            have hr := okR_64 hL_l hc.2.1 hk
            have hn := num_rng (k := byL (Sy.rows KT)) (p := (Go.RowKit.intOf ((Sy.rows l).getD i0a.toNat Go.undef))) (m := n) hc.2.2.1 hc.2.2.2
            have hz := num_zero (k := byL (Sy.rows KT)) (p := (Go.RowKit.intOf ((Sy.rows l).getD i0a.toNat Go.undef)))
            have h8 : numS (byL (Sy.rows KT)) (Go.RowKit.intOf ((Sy.rows l).getD i0a.toNat Go.undef)) 18446744073709551615 = sipS (byL (Sy.rows KT)) (byL (numB (Go.RowKit.intOf ((Sy.rows l).getD i0a.toNat Go.undef)) 8)) := if_pos rfl
            first
            | omega
            | exact ⟨hc.1, hr, hc.2.2⟩
            | exact ⟨hc.1, hr⟩
            | exact ⟨hc.1, okR_isB (isB_numB _ _), by rw [numB_len]; decide⟩))
     ·
      refine ⟨?_, fun h3 => ?_⟩
      ·
       first
       | exact True.intro
       | omega
       | (
          obtain ⟨a0, a1, a2, a3⟩ := hi0
          have a3 := eqV_iff.1 a3
          have hL : Sy.rows i0b = wnL (byL (Sy.rows KT)) (Sy.rows l) n i0a.toNat := by rw [a3, rows_arr]
          have hLl : (Sy.rows i0b).length = i0a.toNat := by rw [hL, wn_len]
          first
          | omega
          | (
             have hk : i0a.toNat < (Sy.rows l).length := by omega
             have hr := okR_64 hL_l hc.2.1 hk
             have hn := num_rng (k := byL (Sy.rows KT)) (p := (Go.RowKit.intOf ((Sy.rows l).getD i0a.toNat Go.undef))) (m := n) hc.2.2.1 hc.2.2.2
             have hz := num_zero (k := byL (Sy.rows KT)) (p := (Go.RowKit.intOf ((Sy.rows l).getD i0a.toNat Go.undef)))
             have h8 : numS (byL (Sy.rows KT)) (Go.RowKit.intOf ((Sy.rows l).getD i0a.toNat Go.undef)) 18446744073709551615 = sipS (byL (Sy.rows KT)) (byL (numB (Go.RowKit.intOf ((Sy.rows l).getD i0a.toNat Go.undef)) 8)) := if_pos rfl
             first
             | omega
             | exact ⟨hc.1, hr, hc.2.2⟩
             | exact ⟨hc.1, hr⟩
             | exact ⟨hc.1, okR_isB (isB_numB _ _), by rw [numB_len]; decide⟩))
      ·
       refine ⟨fun h4 => ?_, fun h4 => ?_⟩
       ·
        first
        | exact True.intro
        | rfl
        | (
           obtain ⟨a0, a1, a2, a3⟩ := hi0
           have a3 := eqV_iff.1 a3
           have hL : Sy.rows i0b = wnL (byL (Sy.rows KT)) (Sy.rows l) n i0a.toNat := by rw [a3, rows_arr]
           have hLl : (Sy.rows i0b).length = i0a.toNat := by rw [hL, wn_len]
           have hk : i0a.toNat < (Sy.rows l).length := by omega
           have hr := okR_64 hL_l hc.2.1 hk
           have hn := num_rng (k := byL (Sy.rows KT)) (p := (Go.RowKit.intOf ((Sy.rows l).getD i0a.toNat Go.undef))) (m := n) hc.2.2.1 hc.2.2.2
           have hz := num_zero (k := byL (Sy.rows KT)) (p := (Go.RowKit.intOf ((Sy.rows l).getD i0a.toNat Go.undef)))
           have h8 : numS (byL (Sy.rows KT)) (Go.RowKit.intOf ((Sy.rows l).getD i0a.toNat Go.undef)) 18446744073709551615 = sipS (byL (Sy.rows KT)) (byL (numB (Go.RowKit.intOf ((Sy.rows l).getD i0a.toNat Go.undef)) 8)) := if_pos rfl
           exfalso
           omega)
       ·
        refine ⟨?_, fun h5 => ?_⟩
        ·
         first
         | exact True.intro
         | omega
         | (
            obtain ⟨a0, a1, a2, a3⟩ := hi0
            have a3 := eqV_iff.1 a3
            have hL : Sy.rows i0b = wnL (byL (Sy.rows KT)) (Sy.rows l) n i0a.toNat := by rw [a3, rows_arr]
            have hLl : (Sy.rows i0b).length = i0a.toNat := by rw [hL, wn_len]
            first
            | omega
            | (
               have hk : i0a.toNat < (Sy.rows l).length := by omega
               have hr := okR_64 hL_l hc.2.1 hk
               have hn := num_rng (k := byL (Sy.rows KT)) (p := (Go.RowKit.intOf ((Sy.rows l).getD i0a.toNat Go.undef))) (m := n) hc.2.2.1 hc.2.2.2
               have hz := num_zero (k := byL (Sy.rows KT)) (p := (Go.RowKit.intOf ((Sy.rows l).getD i0a.toNat Go.undef)))
               have h8 : numS (byL (Sy.rows KT)) (Go.RowKit.intOf ((Sy.rows l).getD i0a.toNat Go.undef)) 18446744073709551615 = sipS (byL (Sy.rows KT)) (byL (numB (Go.RowKit.intOf ((Sy.rows l).getD i0a.toNat Go.undef)) 8)) := if_pos rfl
               first
               | omega
               | exact ⟨hc.1, hr, hc.2.2⟩
               | exact ⟨hc.1, hr⟩
               | exact ⟨hc.1, okR_isB (isB_numB _ _), by rw [numB_len]; decide⟩))
        ·
         refine ⟨?_, fun h6 => ?_⟩
         ·
          first
          | exact True.intro
          | omega
          | (
             obtain ⟨a0, a1, a2, a3⟩ := hi0
             have a3 := eqV_iff.1 a3
             have hL : Sy.rows i0b = wnL (byL (Sy.rows KT)) (Sy.rows l) n i0a.toNat := by rw [a3, rows_arr]
             have hLl : (Sy.rows i0b).length = i0a.toNat := by rw [hL, wn_len]
             first
             | omega
             | (
                have hk : i0a.toNat < (Sy.rows l).length := by omega
                have hr := okR_64 hL_l hc.2.1 hk
                have hn := num_rng (k := byL (Sy.rows KT)) (p := (Go.RowKit.intOf ((Sy.rows l).getD i0a.toNat Go.undef))) (m := n) hc.2.2.1 hc.2.2.2
                have hz := num_zero (k := byL (Sy.rows KT)) (p := (Go.RowKit.intOf ((Sy.rows l).getD i0a.toNat Go.undef)))
                have h8 : numS (byL (Sy.rows KT)) (Go.RowKit.intOf ((Sy.rows l).getD i0a.toNat Go.undef)) 18446744073709551615 = sipS (byL (Sy.rows KT)) (byL (numB (Go.RowKit.intOf ((Sy.rows l).getD i0a.toNat Go.undef)) 8)) := if_pos rfl
                first
                | omega
                | exact ⟨hc.1, hr, hc.2.2⟩
                | exact ⟨hc.1, hr⟩
                | exact ⟨hc.1, okR_isB (isB_numB _ _), by rw [numB_len]; decide⟩))
         ·
          refine ⟨fun h7 => ?_, fun h7 => ?_⟩
          ·
           first
           | exact True.intro
           | rfl
           | (
              obtain ⟨a0, a1, a2, a3⟩ := hi0
              have a3 := eqV_iff.1 a3
              have hL : Sy.rows i0b = wnL (byL (Sy.rows KT)) (Sy.rows l) n i0a.toNat := by rw [a3, rows_arr]
              have hLl : (Sy.rows i0b).length = i0a.toNat := by rw [hL, wn_len]
              have hk : i0a.toNat < (Sy.rows l).length := by omega
              have hr := okR_64 hL_l hc.2.1 hk
              have hn := num_rng (k := byL (Sy.rows KT)) (p := (Go.RowKit.intOf ((Sy.rows l).getD i0a.toNat Go.undef))) (m := n) hc.2.2.1 hc.2.2.2
              have hz := num_zero (k := byL (Sy.rows KT)) (p := (Go.RowKit.intOf ((Sy.rows l).getD i0a.toNat Go.undef)))
              have h8 : numS (byL (Sy.rows KT)) (Go.RowKit.intOf ((Sy.rows l).getD i0a.toNat Go.undef)) 18446744073709551615 = sipS (byL (Sy.rows KT)) (byL (numB (Go.RowKit.intOf ((Sy.rows l).getD i0a.toNat Go.undef)) 8)) := if_pos rfl
              exfalso
              omega)
          ·
           refine ⟨?_, fun h8 => ?_⟩
           ·
            first
            | exact True.intro
            | omega
            | (
               obtain ⟨a0, a1, a2, a3⟩ := hi0
               have a3 := eqV_iff.1 a3
               have hL : Sy.rows i0b = wnL (byL (Sy.rows KT)) (Sy.rows l) n i0a.toNat := by rw [a3, rows_arr]
               have hLl : (Sy.rows i0b).length = i0a.toNat := by rw [hL, wn_len]
               first
               | omega
               | (
                  have hk : i0a.toNat < (Sy.rows l).length := by omega
                  have hr := okR_64 hL_l hc.2.1 hk
                  have hn := num_rng (k := byL (Sy.rows KT)) (p := (Go.RowKit.intOf ((Sy.rows l).getD i0a.toNat Go.undef))) (m := n) hc.2.2.1 hc.2.2.2
                  have hz := num_zero (k := byL (Sy.rows KT)) (p := (Go.RowKit.intOf ((Sy.rows l).getD i0a.toNat Go.undef)))
                  have h8 : numS (byL (Sy.rows KT)) (Go.RowKit.intOf ((Sy.rows l).getD i0a.toNat Go.undef)) 18446744073709551615 = sipS (byL (Sy.rows KT)) (byL (numB (Go.RowKit.intOf ((Sy.rows l).getD i0a.toNat Go.undef)) 8)) := if_pos rfl
                  first
                  | omega
                  | exact ⟨hc.1, hr, hc.2.2⟩
                  | exact ⟨hc.1, hr⟩
                  | exact ⟨hc.1, okR_isB (isB_numB _ _), by rw [numB_len]; decide⟩))
           ·
            refine ⟨?_, ?_⟩
            ·
             obtain ⟨a0, a1, a2, a3⟩ := hi0
             have a3 := eqV_iff.1 a3
             have hL : Sy.rows i0b = wnL (byL (Sy.rows KT)) (Sy.rows l) n i0a.toNat := by rw [a3, rows_arr]
             have hLl : (Sy.rows i0b).length = i0a.toNat := by rw [hL, wn_len]
             have hw : IntKind.wrap .i64 (i0a + 1) = i0a + 1 := by have := wr_i64 (i0a + 1); omega
             rw [hw, toNat_succ a0, wn_succ, ← hL]
             exact ⟨by omega, by omega, by omega, eqV_iff.2 rfl⟩
            ·
             have := wr_i64 (i0a + 1)
             omega
    ·
     refine ⟨?_, ?_⟩
     ·
      omega
     ·
      intro i1a hi1
      refine ⟨fun h9 => ?_, fun h9 => ?_⟩
      ·
       refine ⟨?_, fun h10 => ?_⟩
       ·
        first
        | exact True.intro
        | omega
        | (
           obtain ⟨a0, a1, a2, a3⟩ := hi0
           have a3 := eqV_iff.1 a3
           have hL : Sy.rows i0b = wnL (byL (Sy.rows KT)) (Sy.rows l) n i0a.toNat := by rw [a3, rows_arr]
           have hLl : (Sy.rows i0b).length = i0a.toNat := by rw [hL, wn_len]
           obtain ⟨b0, b1⟩ := hi1
           first
           | omega
           | (
              have hk : i1a.toNat < (Sy.rows l).length := by omega
              have hr := okR_64 hL_l hc.2.1 hk
              have hn := num_rng (k := byL (Sy.rows KT)) (p := (Go.RowKit.intOf ((Sy.rows l).getD i1a.toNat Go.undef))) (m := n) hc.2.2.1 hc.2.2.2
              have hz := num_zero (k := byL (Sy.rows KT)) (p := (Go.RowKit.intOf ((Sy.rows l).getD i1a.toNat Go.undef)))
              have h8 : numS (byL (Sy.rows KT)) (Go.RowKit.intOf ((Sy.rows l).getD i1a.toNat Go.undef)) 18446744073709551615 = sipS (byL (Sy.rows KT)) (byL (numB (Go.RowKit.intOf ((Sy.rows l).getD i1a.toNat Go.undef)) 8)) := if_pos rfl
              first
              | omega
              | exact ⟨hc.1, hr, hc.2.2⟩
              | exact ⟨hc.1, hr⟩
              | exact ⟨hc.1, okR_isB (isB_numB _ _), by rw [numB_len]; decide⟩))
       ·
        refine ⟨?_, fun h11 => ?_⟩
        ·
         first
         | exact True.intro
         | omega
         | (
            obtain ⟨a0, a1, a2, a3⟩ := hi0
            have a3 := eqV_iff.1 a3
            have hL : Sy.rows i0b = wnL (byL (Sy.rows KT)) (Sy.rows l) n i0a.toNat := by rw [a3, rows_arr]
            have hLl : (Sy.rows i0b).length = i0a.toNat := by rw [hL, wn_len]
            obtain ⟨b0, b1⟩ := hi1
            first
            | omega
            | (
               have hk : i1a.toNat < (Sy.rows l).length := by omega
               have hr := okR_64 hL_l hc.2.1 hk
               have hn := num_rng (k := byL (Sy.rows KT)) (p := (Go.RowKit.intOf ((Sy.rows l).getD i1a.toNat Go.undef))) (m := n) hc.2.2.1 hc.2.2.2
               have hz := num_zero (k := byL (Sy.rows KT)) (p := (Go.RowKit.intOf ((Sy.rows l).getD i1a.toNat Go.undef)))
               have h8 : numS (byL (Sy.rows KT)) (Go.RowKit.intOf ((Sy.rows l).getD i1a.toNat Go.undef)) 18446744073709551615 = sipS (byL (Sy.rows KT)) (byL (numB (Go.RowKit.intOf ((Sy.rows l).getD i1a.toNat Go.undef)) 8)) := if_pos rfl
               first
               | omega
               | exact ⟨hc.1, hr, hc.2.2⟩
               | exact ⟨hc.1, hr⟩
               | exact ⟨hc.1, okR_isB (isB_numB _ _), by rw [numB_len]; decide⟩))
        ·
         refine ⟨?_, fun h12 => ?_⟩
         ·
          first
          | exact True.intro
          | omega
          | (
             obtain ⟨a0, a1, a2, a3⟩ := hi0
             have a3 := eqV_iff.1 a3
             have hL : Sy.rows i0b = wnL (byL (Sy.rows KT)) (Sy.rows l) n i0a.toNat := by rw [a3, rows_arr]
             have hLl : (Sy.rows i0b).length = i0a.toNat := by rw [hL, wn_len]
             obtain ⟨b0, b1⟩ := hi1
             first
             | omega
             | (
                have hk : i1a.toNat < (Sy.rows l).length := by omega
                have hr := okR_64 hL_l hc.2.1 hk
                have hn := num_rng (k := byL (Sy.rows KT)) (p := (Go.RowKit.intOf ((Sy.rows l).getD i1a.toNat Go.undef))) (m := n) hc.2.2.1 hc.2.2.2
                have hz := num_zero (k := byL (Sy.rows KT)) (p := (Go.RowKit.intOf ((Sy.rows l).getD i1a.toNat Go.undef)))
                have h8 : numS (byL (Sy.rows KT)) (Go.RowKit.intOf ((Sy.rows l).getD i1a.toNat Go.undef)) 18446744073709551615 = sipS (byL (Sy.rows KT)) (byL (numB (Go.RowKit.intOf ((Sy.rows l).getD i1a.toNat Go.undef)) 8)) := if_pos rfl
                first
                | omega
                | exact ⟨hc.1, hr, hc.2.2⟩
                | exact ⟨hc.1, hr⟩
                | exact ⟨hc.1, okR_isB (isB_numB _ _), by rw [numB_len]; decide⟩))
         ·
          refine ⟨?_, fun h13 => ?_⟩
          ·
           first
           | exact True.intro
           | omega
           | (
              obtain ⟨a0, a1, a2, a3⟩ := hi0
              have a3 := eqV_iff.1 a3
              have hL : Sy.rows i0b = wnL (byL (Sy.rows KT)) (Sy.rows l) n i0a.toNat := by rw [a3, rows_arr]
              have hLl : (Sy.rows i0b).length = i0a.toNat := by rw [hL, wn_len]
              obtain ⟨b0, b1⟩ := hi1
              first
              | omega
              | (
                 have hk : i1a.toNat < (Sy.rows l).length := by omega
                 have hr := okR_64 hL_l hc.2.1 hk
                 have hn := num_rng (k := byL (Sy.rows KT)) (p := (Go.RowKit.intOf ((Sy.rows l).getD i1a.toNat Go.undef))) (m := n) hc.2.2.1 hc.2.2.2
                 have hz := num_zero (k := byL (Sy.rows KT)) (p := (Go.RowKit.intOf ((Sy.rows l).getD i1a.toNat Go.undef)))
                 have h8 : numS (byL (Sy.rows KT)) (Go.RowKit.intOf ((Sy.rows l).getD i1a.toNat Go.undef)) 18446744073709551615 = sipS (byL (Sy.rows KT)) (byL (numB (Go.RowKit.intOf ((Sy.rows l).getD i1a.toNat Go.undef)) 8)) := if_pos rfl
                 first
                 | omega
                 | exact ⟨hc.1, hr, hc.2.2⟩
                 | exact ⟨hc.1, hr⟩
                 | exact ⟨hc.1, okR_isB (isB_numB _ _), by rw [numB_len]; decide⟩))
          ·
           refine ⟨fun h14 => ?_, fun h14 => ?_⟩
           ·
            first
            | exact True.intro
            | rfl
            | (
               obtain ⟨a0, a1, a2, a3⟩ := hi0
               have a3 := eqV_iff.1 a3
               have hL : Sy.rows i0b = wnL (byL (Sy.rows KT)) (Sy.rows l) n i0a.toNat := by rw [a3, rows_arr]
               have hLl : (Sy.rows i0b).length = i0a.toNat := by rw [hL, wn_len]
               obtain ⟨b0, b1⟩ := hi1
               have hg : (i1a.toNat < i0a.toNat) → Go.RowKit.intOf ((Sy.rows i0b).getD i1a.toNat Go.undef) = numS (byL (Sy.rows KT)) (Go.RowKit.intOf ((Sy.rows l).getD i1a.toNat Go.undef)) n := fun h => by rw [hL, wn_get _ _ _ h]; rfl
               have hk : i1a.toNat < (Sy.rows l).length := by omega
               have hr := okR_64 hL_l hc.2.1 hk
               have hn := num_rng (k := byL (Sy.rows KT)) (p := (Go.RowKit.intOf ((Sy.rows l).getD i1a.toNat Go.undef))) (m := n) hc.2.2.1 hc.2.2.2
               have hz := num_zero (k := byL (Sy.rows KT)) (p := (Go.RowKit.intOf ((Sy.rows l).getD i1a.toNat Go.undef)))
               have h8 : numS (byL (Sy.rows KT)) (Go.RowKit.intOf ((Sy.rows l).getD i1a.toNat Go.undef)) 18446744073709551615 = sipS (byL (Sy.rows KT)) (byL (numB (Go.RowKit.intOf ((Sy.rows l).getD i1a.toNat Go.undef)) 8)) := if_pos rfl
               have hg := hg (by omega)
               exfalso
               omega)
           ·
            refine ⟨?_, fun h15 => ?_⟩
            ·
             first
             | exact True.intro
             | omega
             | (
                obtain ⟨a0, a1, a2, a3⟩ := hi0
                have a3 := eqV_iff.1 a3
                have hL : Sy.rows i0b = wnL (byL (Sy.rows KT)) (Sy.rows l) n i0a.toNat := by rw [a3, rows_arr]
                have hLl : (Sy.rows i0b).length = i0a.toNat := by rw [hL, wn_len]
                obtain ⟨b0, b1⟩ := hi1
                first
                | omega
                | (
                   have hk : i1a.toNat < (Sy.rows l).length := by omega
                   have hr := okR_64 hL_l hc.2.1 hk
                   have hn := num_rng (k := byL (Sy.rows KT)) (p := (Go.RowKit.intOf ((Sy.rows l).getD i1a.toNat Go.undef))) (m := n) hc.2.2.1 hc.2.2.2
                   have hz := num_zero (k := byL (Sy.rows KT)) (p := (Go.RowKit.intOf ((Sy.rows l).getD i1a.toNat Go.undef)))
                   have h8 : numS (byL (Sy.rows KT)) (Go.RowKit.intOf ((Sy.rows l).getD i1a.toNat Go.undef)) 18446744073709551615 = sipS (byL (Sy.rows KT)) (byL (numB (Go.RowKit.intOf ((Sy.rows l).getD i1a.toNat Go.undef)) 8)) := if_pos rfl
                   first
                   | omega
                   | exact ⟨hc.1, hr, hc.2.2⟩
                   | exact ⟨hc.1, hr⟩
                   | exact ⟨hc.1, okR_isB (isB_numB _ _), by rw [numB_len]; decide⟩))
            ·
             refine ⟨?_, fun h16 => ?_⟩
             ·
              first
              | exact True.intro
              | omega
              | (
                 obtain ⟨a0, a1, a2, a3⟩ := hi0
                 have a3 := eqV_iff.1 a3
                 have hL : Sy.rows i0b = wnL (byL (Sy.rows KT)) (Sy.rows l) n i0a.toNat := by rw [a3, rows_arr]
                 have hLl : (Sy.rows i0b).length = i0a.toNat := by rw [hL, wn_len]
                 obtain ⟨b0, b1⟩ := hi1
                 first
                 | omega
                 | (
                    have hk : i1a.toNat < (Sy.rows l).length := by omega
                    have hr := okR_64 hL_l hc.2.1 hk
                    have hn := num_rng (k := byL (Sy.rows KT)) (p := (Go.RowKit.intOf ((Sy.rows l).getD i1a.toNat Go.undef))) (m := n) hc.2.2.1 hc.2.2.2
                    have hz := num_zero (k := byL (Sy.rows KT)) (p := (Go.RowKit.intOf ((Sy.rows l).getD i1a.toNat Go.undef)))
                    have h8 : numS (byL (Sy.rows KT)) (Go.RowKit.intOf ((Sy.rows l).getD i1a.toNat Go.undef)) 18446744073709551615 = sipS (byL (Sy.rows KT)) (byL (numB (Go.RowKit.intOf ((Sy.rows l).getD i1a.toNat Go.undef)) 8)) := if_pos rfl
                    first
                    | omega
                    | exact ⟨hc.1, hr, hc.2.2⟩
                    | exact ⟨hc.1, hr⟩
                    | exact ⟨hc.1, okR_isB (isB_numB _ _), by rw [numB_len]; decide⟩))
             ·
              refine ⟨?_, fun h17 => ?_⟩
              ·
               first
               | exact True.intro
               | omega
               | (
                  obtain ⟨a0, a1, a2, a3⟩ := hi0
                  have a3 := eqV_iff.1 a3
                  have hL : Sy.rows i0b = wnL (byL (Sy.rows KT)) (Sy.rows l) n i0a.toNat := by rw [a3, rows_arr]
                  have hLl : (Sy.rows i0b).length = i0a.toNat := by rw [hL, wn_len]
                  obtain ⟨b0, b1⟩ := hi1
                  first
                  | omega
                  | (
                     have hk : i1a.toNat < (Sy.rows l).length := by omega
                     have hr := okR_64 hL_l hc.2.1 hk
                     have hn := num_rng (k := byL (Sy.rows KT)) (p := (Go.RowKit.intOf ((Sy.rows l).getD i1a.toNat Go.undef))) (m := n) hc.2.2.1 hc.2.2.2
                     have hz := num_zero (k := byL (Sy.rows KT)) (p := (Go.RowKit.intOf ((Sy.rows l).getD i1a.toNat Go.undef)))
                     have h8 : numS (byL (Sy.rows KT)) (Go.RowKit.intOf ((Sy.rows l).getD i1a.toNat Go.undef)) 18446744073709551615 = sipS (byL (Sy.rows KT)) (byL (numB (Go.RowKit.intOf ((Sy.rows l).getD i1a.toNat Go.undef)) 8)) := if_pos rfl
                     first
                     | omega
                     | exact ⟨hc.1, hr, hc.2.2⟩
                     | exact ⟨hc.1, hr⟩
                     | exact ⟨hc.1, okR_isB (isB_numB _ _), by rw [numB_len]; decide⟩))
              ·
               try simp only [hw2]
               try simp only [hw1]
               refine ⟨fun h18 => ?_, fun h18 => ?_⟩
               ·
                first
                | exact True.intro
                | rfl
                | (
                   obtain ⟨a0, a1, a2, a3⟩ := hi0
                   have a3 := eqV_iff.1 a3
                   have hL : Sy.rows i0b = wnL (byL (Sy.rows KT)) (Sy.rows l) n i0a.toNat := by rw [a3, rows_arr]
                   have hLl : (Sy.rows i0b).length = i0a.toNat := by rw [hL, wn_len]
                   obtain ⟨b0, b1⟩ := hi1
                   have hg : (i1a.toNat < i0a.toNat) → Go.RowKit.intOf ((Sy.rows i0b).getD i1a.toNat Go.undef) = numS (byL (Sy.rows KT)) (Go.RowKit.intOf ((Sy.rows l).getD i1a.toNat Go.undef)) n := fun h => by rw [hL, wn_get _ _ _ h]; rfl
                   have hk : i1a.toNat < (Sy.rows l).length := by omega
                   have hr := okR_64 hL_l hc.2.1 hk
                   have hn := num_rng (k := byL (Sy.rows KT)) (p := (Go.RowKit.intOf ((Sy.rows l).getD i1a.toNat Go.undef))) (m := n) hc.2.2.1 hc.2.2.2
                   have hz := num_zero (k := byL (Sy.rows KT)) (p := (Go.RowKit.intOf ((Sy.rows l).getD i1a.toNat Go.undef)))
                   have h8 : numS (byL (Sy.rows KT)) (Go.RowKit.intOf ((Sy.rows l).getD i1a.toNat Go.undef)) 18446744073709551615 = sipS (byL (Sy.rows KT)) (byL (numB (Go.RowKit.intOf ((Sy.rows l).getD i1a.toNat Go.undef)) 8)) := if_pos rfl
                   have hg := hg (by omega)
                   exfalso
                   omega)
               ·
                refine ⟨?_, ?_⟩
                ·
                 obtain ⟨a0, a1, a2, a3⟩ := hi0
                 have a3 := eqV_iff.1 a3
                 have hL : Sy.rows i0b = wnL (byL (Sy.rows KT)) (Sy.rows l) n i0a.toNat := by rw [a3, rows_arr]
                 have hLl : (Sy.rows i0b).length = i0a.toNat := by rw [hL, wn_len]
                 obtain ⟨b0, b1⟩ := hi1
                 have hw : IntKind.wrap .i64 (i1a + 1) = i1a + 1 := by have := wr_i64 (i1a + 1); omega
                 omega
                ·
                 obtain ⟨a0, a1, a2, a3⟩ := hi0
                 have a3 := eqV_iff.1 a3
                 have hL : Sy.rows i0b = wnL (byL (Sy.rows KT)) (Sy.rows l) n i0a.toNat := by rw [a3, rows_arr]
                 have hLl : (Sy.rows i0b).length = i0a.toNat := by rw [hL, wn_len]
                 have hw := wr_i64 (i1a + 1)
                 omega
      ·
       first
       | exact True.intro
       | rfl
       | (
          obtain ⟨a0, a1, a2, a3⟩ := hi0
          have a3 := eqV_iff.1 a3
          have hL : Sy.rows i0b = wnL (byL (Sy.rows KT)) (Sy.rows l) n i0a.toNat := by rw [a3, rows_arr]
          have hLl : (Sy.rows i0b).length = i0a.toNat := by rw [hL, wn_len]
          obtain ⟨b0, b1⟩ := hi1
          have hg : (i1a.toNat < i0a.toNat) → Go.RowKit.intOf ((Sy.rows i0b).getD i1a.toNat Go.undef) = numS (byL (Sy.rows KT)) (Go.RowKit.intOf ((Sy.rows l).getD i1a.toNat Go.undef)) n := fun h => by rw [hL, wn_get _ _ _ h]; rfl
          have hk : i1a.toNat < (Sy.rows l).length := by omega
          have hr := okR_64 hL_l hc.2.1 hk
          have hn := num_rng (k := byL (Sy.rows KT)) (p := (Go.RowKit.intOf ((Sy.rows l).getD i1a.toNat Go.undef))) (m := n) hc.2.2.1 hc.2.2.2
          have hz := num_zero (k := byL (Sy.rows KT)) (p := (Go.RowKit.intOf ((Sy.rows l).getD i1a.toNat Go.undef)))
          have h8 : numS (byL (Sy.rows KT)) (Go.RowKit.intOf ((Sy.rows l).getD i1a.toNat Go.undef)) 18446744073709551615 = sipS (byL (Sy.rows KT)) (byL (numB (Go.RowKit.intOf ((Sy.rows l).getD i1a.toNat Go.undef)) 8)) := if_pos rfl
          have hg := hg (by omega)
          exfalso
          omega)
   ·
    refine ⟨?_, ?_⟩
    ·
     omega
    ·
     intro i2a hi2
     refine ⟨fun h19 => ?_, fun h19 => ?_⟩
     ·
      refine ⟨?_, fun h20 => ?_⟩
      ·
       first
       | exact True.intro
       | omega
       | (
          obtain ⟨a0, a1, a2, a3⟩ := hi0
          have a3 := eqV_iff.1 a3
          have hL : Sy.rows i0b = wnL (byL (Sy.rows KT)) (Sy.rows l) n i0a.toNat := by rw [a3, rows_arr]
          have hLl : (Sy.rows i0b).length = i0a.toNat := by rw [hL, wn_len]
          obtain ⟨b0, b1⟩ := hi2
          first
          | omega
          | (
             have hk : i2a.toNat < (Sy.rows l).length := by omega
             have hr := okR_64 hL_l hc.2.1 hk
             have hn := num_rng (k := byL (Sy.rows KT)) (p := (Go.RowKit.intOf ((Sy.rows l).getD i2a.toNat Go.undef))) (m := n) hc.2.2.1 hc.2.2.2
             have hz := num_zero (k := byL (Sy.rows KT)) (p := (Go.RowKit.intOf ((Sy.rows l).getD i2a.toNat Go.undef)))
             have h8 : numS (byL (Sy.rows KT)) (Go.RowKit.intOf ((Sy.rows l).getD i2a.toNat Go.undef)) 18446744073709551615 = sipS (byL (Sy.rows KT)) (byL (numB (Go.RowKit.intOf ((Sy.rows l).getD i2a.toNat Go.undef)) 8)) := if_pos rfl
             first
             | omega
             | exact ⟨hc.1, hr, hc.2.2⟩
             | exact ⟨hc.1, hr⟩
             | exact ⟨hc.1, okR_isB (isB_numB _ _), by rw [numB_len]; decide⟩))
      ·
       refine ⟨?_, fun h21 => ?_⟩
       ·
        first
        | exact True.intro
        | omega
        | (
           obtain ⟨a0, a1, a2, a3⟩ := hi0
           have a3 := eqV_iff.1 a3
           have hL : Sy.rows i0b = wnL (byL (Sy.rows KT)) (Sy.rows l) n i0a.toNat := by rw [a3, rows_arr]
           have hLl : (Sy.rows i0b).length = i0a.toNat := by rw [hL, wn_len]
           obtain ⟨b0, b1⟩ := hi2
           first
           | omega
           | (
              have hk : i2a.toNat < (Sy.rows l).length := by omega
              have hr := okR_64 hL_l hc.2.1 hk
              have hn := num_rng (k := byL (Sy.rows KT)) (p := (Go.RowKit.intOf ((Sy.rows l).getD i2a.toNat Go.undef))) (m := n) hc.2.2.1 hc.2.2.2
              have hz := num_zero (k := byL (Sy.rows KT)) (p := (Go.RowKit.intOf ((Sy.rows l).getD i2a.toNat Go.undef)))
              have h8 : numS (byL (Sy.rows KT)) (Go.RowKit.intOf ((Sy.rows l).getD i2a.toNat Go.undef)) 18446744073709551615 = sipS (byL (Sy.rows KT)) (byL (numB (Go.RowKit.intOf ((Sy.rows l).getD i2a.toNat Go.undef)) 8)) := if_pos rfl
              first
              | omega
              | exact ⟨hc.1, hr, hc.2.2⟩
              | exact ⟨hc.1, hr⟩
              | exact ⟨hc.1, okR_isB (isB_numB _ _), by rw [numB_len]; decide⟩))
       ·
        refine ⟨?_, fun h22 => ?_⟩
        ·
         first
         | exact True.intro
         | omega
         | (
            obtain ⟨a0, a1, a2, a3⟩ := hi0
            have a3 := eqV_iff.1 a3
            have hL : Sy.rows i0b = wnL (byL (Sy.rows KT)) (Sy.rows l) n i0a.toNat := by rw [a3, rows_arr]
            have hLl : (Sy.rows i0b).length = i0a.toNat := by rw [hL, wn_len]
            obtain ⟨b0, b1⟩ := hi2
            first
            | omega
            | (
               have hk : i2a.toNat < (Sy.rows l).length := by omega
               have hr := okR_64 hL_l hc.2.1 hk
               have hn := num_rng (k := byL (Sy.rows KT)) (p := (Go.RowKit.intOf ((Sy.rows l).getD i2a.toNat Go.undef))) (m := n) hc.2.2.1 hc.2.2.2
               have hz := num_zero (k := byL (Sy.rows KT)) (p := (Go.RowKit.intOf ((Sy.rows l).getD i2a.toNat Go.undef)))
               have h8 : numS (byL (Sy.rows KT)) (Go.RowKit.intOf ((Sy.rows l).getD i2a.toNat Go.undef)) 18446744073709551615 = sipS (byL (Sy.rows KT)) (byL (numB (Go.RowKit.intOf ((Sy.rows l).getD i2a.toNat Go.undef)) 8)) := if_pos rfl
               first
               | omega
               | exact ⟨hc.1, hr, hc.2.2⟩
               | exact ⟨hc.1, hr⟩
               | exact ⟨hc.1, okR_isB (isB_numB _ _), by rw [numB_len]; decide⟩))
        ·
         refine ⟨?_, fun h23 => ?_⟩
         ·
          first
          | exact True.intro
          | omega
          | (
             obtain ⟨a0, a1, a2, a3⟩ := hi0
             have a3 := eqV_iff.1 a3
             have hL : Sy.rows i0b = wnL (byL (Sy.rows KT)) (Sy.rows l) n i0a.toNat := by rw [a3, rows_arr]
             have hLl : (Sy.rows i0b).length = i0a.toNat := by rw [hL, wn_len]
             obtain ⟨b0, b1⟩ := hi2
             first
             | omega
             | (
                have hk : i2a.toNat < (Sy.rows l).length := by omega
                have hr := okR_64 hL_l hc.2.1 hk
                have hn := num_rng (k := byL (Sy.rows KT)) (p := (Go.RowKit.intOf ((Sy.rows l).getD i2a.toNat Go.undef))) (m := n) hc.2.2.1 hc.2.2.2
                have hz := num_zero (k := byL (Sy.rows KT)) (p := (Go.RowKit.intOf ((Sy.rows l).getD i2a.toNat Go.undef)))
                have h8 : numS (byL (Sy.rows KT)) (Go.RowKit.intOf ((Sy.rows l).getD i2a.toNat Go.undef)) 18446744073709551615 = sipS (byL (Sy.rows KT)) (byL (numB (Go.RowKit.intOf ((Sy.rows l).getD i2a.toNat Go.undef)) 8)) := if_pos rfl
                first
                | omega
                | exact ⟨hc.1, hr, hc.2.2⟩
                | exact ⟨hc.1, hr⟩
                | exact ⟨hc.1, okR_isB (isB_numB _ _), by rw [numB_len]; decide⟩))
         ·
          refine ⟨fun h24 => ?_, fun h24 => ?_⟩
          ·
           first
           | exact True.intro
           | rfl
           | (
              obtain ⟨a0, a1, a2, a3⟩ := hi0
              have a3 := eqV_iff.1 a3
              have hL : Sy.rows i0b = wnL (byL (Sy.rows KT)) (Sy.rows l) n i0a.toNat := by rw [a3, rows_arr]
              have hLl : (Sy.rows i0b).length = i0a.toNat := by rw [hL, wn_len]
              obtain ⟨b0, b1⟩ := hi2
              have hg : (i2a.toNat < i0a.toNat) → Go.RowKit.intOf ((Sy.rows i0b).getD i2a.toNat Go.undef) = numS (byL (Sy.rows KT)) (Go.RowKit.intOf ((Sy.rows l).getD i2a.toNat Go.undef)) n := fun h => by rw [hL, wn_get _ _ _ h]; rfl
              have hk : i2a.toNat < (Sy.rows l).length := by omega
              have hr := okR_64 hL_l hc.2.1 hk
              have hn := num_rng (k := byL (Sy.rows KT)) (p := (Go.RowKit.intOf ((Sy.rows l).getD i2a.toNat Go.undef))) (m := n) hc.2.2.1 hc.2.2.2
              have hz := num_zero (k := byL (Sy.rows KT)) (p := (Go.RowKit.intOf ((Sy.rows l).getD i2a.toNat Go.undef)))
              have h8 : numS (byL (Sy.rows KT)) (Go.RowKit.intOf ((Sy.rows l).getD i2a.toNat Go.undef)) 18446744073709551615 = sipS (byL (Sy.rows KT)) (byL (numB (Go.RowKit.intOf ((Sy.rows l).getD i2a.toNat Go.undef)) 8)) := if_pos rfl
              have hg := hg (by omega)
              exfalso
              omega)
          ·
           refine ⟨?_, fun h25 => ?_⟩
           ·
            first
            | exact True.intro
            | omega
            | (
               obtain ⟨a0, a1, a2, a3⟩ := hi0
               have a3 := eqV_iff.1 a3
               have hL : Sy.rows i0b = wnL (byL (Sy.rows KT)) (Sy.rows l) n i0a.toNat := by rw [a3, rows_arr]
               have hLl : (Sy.rows i0b).length = i0a.toNat := by rw [hL, wn_len]
               obtain ⟨b0, b1⟩ := hi2
               first
               | omega
               | (
                  have hk : i2a.toNat < (Sy.rows l).length := by omega
                  have hr := okR_64 hL_l hc.2.1 hk
                  have hn := num_rng (k := byL (Sy.rows KT)) (p := (Go.RowKit.intOf ((Sy.rows l).getD i2a.toNat Go.undef))) (m := n) hc.2.2.1 hc.2.2.2
                  have hz := num_zero (k := byL (Sy.rows KT)) (p := (Go.RowKit.intOf ((Sy.rows l).getD i2a.toNat Go.undef)))
                  have h8 : numS (byL (Sy.rows KT)) (Go.RowKit.intOf ((Sy.rows l).getD i2a.toNat Go.undef)) 18446744073709551615 = sipS (byL (Sy.rows KT)) (byL (numB (Go.RowKit.intOf ((Sy.rows l).getD i2a.toNat Go.undef)) 8)) := if_pos rfl
                  first
                  | omega
                  | exact ⟨hc.1, hr, hc.2.2⟩
                  | exact ⟨hc.1, hr⟩
                  | exact ⟨hc.1, okR_isB (isB_numB _ _), by rw [numB_len]; decide⟩))
           ·
            refine ⟨?_, fun h26 => ?_⟩
            ·
             first
             | exact True.intro
             | omega
             | (
                obtain ⟨a0, a1, a2, a3⟩ := hi0
                have a3 := eqV_iff.1 a3
                have hL : Sy.rows i0b = wnL (byL (Sy.rows KT)) (Sy.rows l) n i0a.toNat := by rw [a3, rows_arr]
                have hLl : (Sy.rows i0b).length = i0a.toNat := by rw [hL, wn_len]
                obtain ⟨b0, b1⟩ := hi2
                first
                | omega
                | (
                   have hk : i2a.toNat < (Sy.rows l).length := by omega
                   have hr := okR_64 hL_l hc.2.1 hk
                   have hn := num_rng (k := byL (Sy.rows KT)) (p := (Go.RowKit.intOf ((Sy.rows l).getD i2a.toNat Go.undef))) (m := n) hc.2.2.1 hc.2.2.2
                   have hz := num_zero (k := byL (Sy.rows KT)) (p := (Go.RowKit.intOf ((Sy.rows l).getD i2a.toNat Go.undef)))
                   have h8 : numS (byL (Sy.rows KT)) (Go.RowKit.intOf ((Sy.rows l).getD i2a.toNat Go.undef)) 18446744073709551615 = sipS (byL (Sy.rows KT)) (byL (numB (Go.RowKit.intOf ((Sy.rows l).getD i2a.toNat Go.undef)) 8)) := if_pos rfl
                   first
                   | omega
                   | exact ⟨hc.1, hr, hc.2.2⟩
                   | exact ⟨hc.1, hr⟩
                   | exact ⟨hc.1, okR_isB (isB_numB _ _), by rw [numB_len]; decide⟩))
            ·
             refine ⟨?_, fun h27 => ?_⟩
             ·
              first
              | exact True.intro
              | omega
              | (
                 obtain ⟨a0, a1, a2, a3⟩ := hi0
                 have a3 := eqV_iff.1 a3
                 have hL : Sy.rows i0b = wnL (byL (Sy.rows KT)) (Sy.rows l) n i0a.toNat := by rw [a3, rows_arr]
                 have hLl : (Sy.rows i0b).length = i0a.toNat := by rw [hL, wn_len]
                 obtain ⟨b0, b1⟩ := hi2
                 first
                 | omega
                 | (
                    have hk : i2a.toNat < (Sy.rows l).length := by omega
                    have hr := okR_64 hL_l hc.2.1 hk
                    have hn := num_rng (k := byL (Sy.rows KT)) (p := (Go.RowKit.intOf ((Sy.rows l).getD i2a.toNat Go.undef))) (m := n) hc.2.2.1 hc.2.2.2
                    have hz := num_zero (k := byL (Sy.rows KT)) (p := (Go.RowKit.intOf ((Sy.rows l).getD i2a.toNat Go.undef)))
                    have h8 : numS (byL (Sy.rows KT)) (Go.RowKit.intOf ((Sy.rows l).getD i2a.toNat Go.undef)) 18446744073709551615 = sipS (byL (Sy.rows KT)) (byL (numB (Go.RowKit.intOf ((Sy.rows l).getD i2a.toNat Go.undef)) 8)) := if_pos rfl
                    first
                    | omega
                    | exact ⟨hc.1, hr, hc.2.2⟩
                    | exact ⟨hc.1, hr⟩
                    | exact ⟨hc.1, okR_isB (isB_numB _ _), by rw [numB_len]; decide⟩))
             ·
              try simp only [hw5]
              try simp only [hw4]
              refine ⟨fun h28 => ?_, fun h28 => ?_⟩
              ·
               first
               | exact True.intro
               | rfl
               | (
                  obtain ⟨a0, a1, a2, a3⟩ := hi0
                  have a3 := eqV_iff.1 a3
                  have hL : Sy.rows i0b = wnL (byL (Sy.rows KT)) (Sy.rows l) n i0a.toNat := by rw [a3, rows_arr]
                  have hLl : (Sy.rows i0b).length = i0a.toNat := by rw [hL, wn_len]
                  obtain ⟨b0, b1⟩ := hi2
                  have hg : (i2a.toNat < i0a.toNat) → Go.RowKit.intOf ((Sy.rows i0b).getD i2a.toNat Go.undef) = numS (byL (Sy.rows KT)) (Go.RowKit.intOf ((Sy.rows l).getD i2a.toNat Go.undef)) n := fun h => by rw [hL, wn_get _ _ _ h]; rfl
                  have hk : i2a.toNat < (Sy.rows l).length := by omega
                  have hr := okR_64 hL_l hc.2.1 hk
                  have hn := num_rng (k := byL (Sy.rows KT)) (p := (Go.RowKit.intOf ((Sy.rows l).getD i2a.toNat Go.undef))) (m := n) hc.2.2.1 hc.2.2.2
                  have hz := num_zero (k := byL (Sy.rows KT)) (p := (Go.RowKit.intOf ((Sy.rows l).getD i2a.toNat Go.undef)))
                  have h8 : numS (byL (Sy.rows KT)) (Go.RowKit.intOf ((Sy.rows l).getD i2a.toNat Go.undef)) 18446744073709551615 = sipS (byL (Sy.rows KT)) (byL (numB (Go.RowKit.intOf ((Sy.rows l).getD i2a.toNat Go.undef)) 8)) := if_pos rfl
                  have hg := hg (by omega)
                  exfalso
                  omega)
              ·
               refine ⟨?_, ?_⟩
               ·
                obtain ⟨a0, a1, a2, a3⟩ := hi0
                have a3 := eqV_iff.1 a3
                have hL : Sy.rows i0b = wnL (byL (Sy.rows KT)) (Sy.rows l) n i0a.toNat := by rw [a3, rows_arr]
                have hLl : (Sy.rows i0b).length = i0a.toNat := by rw [hL, wn_len]
                obtain ⟨b0, b1⟩ := hi2
                have hw : IntKind.wrap .i64 (i2a + 1) = i2a + 1 := by have := wr_i64 (i2a + 1); omega
                omega
               ·
                obtain ⟨a0, a1, a2, a3⟩ := hi0
                have a3 := eqV_iff.1 a3
                have hL : Sy.rows i0b = wnL (byL (Sy.rows KT)) (Sy.rows l) n i0a.toNat := by rw [a3, rows_arr]
                have hLl : (Sy.rows i0b).length = i0a.toNat := by rw [hL, wn_len]
                have hw := wr_i64 (i2a + 1)
                omega
     ·
      first
      | exact True.intro
      | rfl
      | (
         obtain ⟨a0, a1, a2, a3⟩ := hi0
         have a3 := eqV_iff.1 a3
         have hL : Sy.rows i0b = wnL (byL (Sy.rows KT)) (Sy.rows l) n i0a.toNat := by rw [a3, rows_arr]
         have hLl : (Sy.rows i0b).length = i0a.toNat := by rw [hL, wn_len]
         obtain ⟨b0, b1⟩ := hi2
         have hg : (i2a.toNat < i0a.toNat) → Go.RowKit.intOf ((Sy.rows i0b).getD i2a.toNat Go.undef) = numS (byL (Sy.rows KT)) (Go.RowKit.intOf ((Sy.rows l).getD i2a.toNat Go.undef)) n := fun h => by rw [hL, wn_get _ _ _ h]; rfl
         have hk : i2a.toNat < (Sy.rows l).length := by omega
         have hr := okR_64 hL_l hc.2.1 hk
         have hn := num_rng (k := byL (Sy.rows KT)) (p := (Go.RowKit.intOf ((Sy.rows l).getD i2a.toNat Go.undef))) (m := n) hc.2.2.1 hc.2.2.2
         have hz := num_zero (k := byL (Sy.rows KT)) (p := (Go.RowKit.intOf ((Sy.rows l).getD i2a.toNat Go.undef)))
         have h8 : numS (byL (Sy.rows KT)) (Go.RowKit.intOf ((Sy.rows l).getD i2a.toNat Go.undef)) 18446744073709551615 = sipS (byL (Sy.rows KT)) (byL (numB (Go.RowKit.intOf ((Sy.rows l).getD i2a.toNat Go.undef)) 8)) := if_pos rfl
         have hg := hg (by omega)
         exfalso
         omega)
theorem zsg_wWithin : zsc_wWithin.Good Try.prog syG (zsE [] [] [] []) := good_of_walk (Γ := ⟨[zsc_sure23, zqc_psum, zrc_pnum], syG, [], [], []⟩) (ρ := zsE [] [] [] []) sym wWithin_w rfl (fun _ _ _ _ => (ok_cons (Con.Good.env zsg_sure23 _ _ _ _) (ok_cons (Con.Good.env (Con.Good.up (Con.Good.up zqg_psum zrup rfl) zsup rfl) _ _ _ _) (ok_cons (Con.Good.env (Con.Good.up zrg_pnum zsup rfl) _ _ _ _) ok_nil)))) (fun k0 k1 k2 k3 k4 k5 k6 k7 k8 k9 k10 k11 k12 k13 k14 k15 n l hc hty => wWithin_h k0 k1 k2 k3 k4 k5 k6 k7 k8 k9 k10 k11 k12 k13 k14 k15 n l hc hty)
end Go.Proofs.Ytbgmbbkmadkhgaa
