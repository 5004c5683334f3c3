/-
  Layer 23 by the second engine: numbers of a place, derived keys.
-/
import Derived.Test.YtbgmbbkmadkhgaaSycqc
import Derived.Test.YtbgmbbkmadkhgaaZqqc
namespace Go.Proofs.Ytbgmbbkmadkhgaa
open Go.RowKit Go.Extern.Stop Go.Stop Go.Extern Go.Proofs.Ytbgmbbkmadkhgaa.Sy
set_option linter.unusedVariables false
set_option linter.unusedSimpArgs false
theorem okP (v : Int) : okR (Sy.rows (putV (Sy.rows (Value.tuple #[])) v 8)) = true := okR_isB (isB_numB 8 v)
theorem rows_put (l : List Value) (v : Int) (n : Nat) : Sy.rows (putV l v n) = l ++ numB v n := rfl
theorem ok2 {u : Int} (h0 : 0 ≤ u) (h1 : u ≤ 255) (x : Int) (h2 : 0 ≤ x) (h3 : x ≤ 255) : okR (Sy.rows (Value.tuple #[Value.int .u8 u, Value.int .u8 x])) = true := okR_isB (.cons h0 h1 (.cons h2 h3 .nil))
noncomputable def zrI : Nat → List Value → Int
  | i, l => zqI i l
noncomputable def zrB : Nat → List Value → Bool
  | i, l => zqB i l
noncomputable def zrV : Nat → List Value → Value
  | i, l => zqV i l
noncomputable abbrev zrE (iv : List Int) (bv : List Bool) (vv : List Value) (sv : List ByteArray) : Env := { iv := iv, bv := bv, vv := vv, sv := sv, fi := zrI, fb := zrB, fv := zrV, et := 102 }
set_option maxHeartbeats 8000000 in
theorem zrup : Agree 19 4 12 (zqE [] [] [] []) (zrE [] [] [] []) := ⟨rfl, (by
    intro f hf
    funext l
    show zrI f l = zqI f l
    unfold zrI
    split <;> first | rfl | omega), (by
    intro f hf
    funext l
    show zrB f l = zqB f l
    unfold zrB
    split <;> first | rfl | omega), (by
    intro f hf
    funext l
    show zrV f l = zqV f l
    unfold zrV
    split <;> first | rfl | omega)⟩
theorem zri_sip (k : Value) (l : Value) : zrI 16 [k, l] = sipS (byL (rows k)) (byL (rows l)) := rfl
theorem zri_nb (k : Value) (k1 : IntKind) (p : Int) (k2 : IntKind) (n : Int) : zrI 17 [k, .int k1 p, .int k2 n] = numS (byL (rows k)) p n := rfl
theorem zrb_okr (l : Value) : zrB 0 [l] = okR (rows l) := rfl
theorem zrv_p8 (l : Value) (k1 : IntKind) (v : Int) : zrV 6 [l, .int k1 v] = putV (rows l) v 8 := rfl
def pnum_tree : Tree :=
 (.need (an_ (le_ (.ofI (.vop (.len 1) (.cons (.tup .nil) .nil))) (.lit 70368744177664)) (an_ (le_ lm_ (.var 16)) (le_ (.var 16) lM_)))
 (.need (an_ (.bapp 0 (.cons (.tup (.cons (.int .u8 v0_) (.cons (.int .u8 v1_) (.cons (.int .u8 v2_) (.cons (.int .u8 v3_) (.cons (.int .u8 v4_) (.cons (.int .u8 v5_) (.cons (.int .u8 v6_) (.cons (.int .u8 v7_) (.cons (.int .u8 v8_) (.cons (.int .u8 v9_) (.cons (.int .u8 (.var 10)) (.cons (.int .u8 (.var 11)) (.cons (.int .u8 (.var 12)) (.cons (.int .u8 (.var 13)) (.cons (.int .u8 (.var 14)) (.cons (.int .u8 (.var 15)) .nil))))))))))))))))) .nil)) (an_ (.bapp 0 (.cons (.vapp 6 (.cons (.tup .nil) (.cons (.int .i64 (.var 16)) .nil))) .nil)) (le_ (.ofI (.vop (.len 1) (.cons (.vapp 6 (.cons (.tup .nil) (.cons (.int .i64 (.var 16)) .nil))) .nil))) (.lit 70368744177664))))
 (.br (eq_ (.var 17) (.lit 18446744073709551615))
 (.ret (.int .u64 (.iapp 16 (.cons (.tup (.cons (.int .u8 v0_) (.cons (.int .u8 v1_) (.cons (.int .u8 v2_) (.cons (.int .u8 v3_) (.cons (.int .u8 v4_) (.cons (.int .u8 v5_) (.cons (.int .u8 v6_) (.cons (.int .u8 v7_) (.cons (.int .u8 v8_) (.cons (.int .u8 v9_) (.cons (.int .u8 (.var 10)) (.cons (.int .u8 (.var 11)) (.cons (.int .u8 (.var 12)) (.cons (.int .u8 (.var 13)) (.cons (.int .u8 (.var 14)) (.cons (.int .u8 (.var 15)) .nil))))))))))))))))) (.cons (.vapp 6 (.cons (.tup .nil) (.cons (.int .i64 (.var 16)) .nil))) .nil)))))
 (.need (.not (eq_ (.wrap .u64 (ad_ (.var 17) (.lit 1))) (.lit 0)))
 (.ret (.int .u64 (.i2 .rem (.iapp 16 (.cons (.tup (.cons (.int .u8 v0_) (.cons (.int .u8 v1_) (.cons (.int .u8 v2_) (.cons (.int .u8 v3_) (.cons (.int .u8 v4_) (.cons (.int .u8 v5_) (.cons (.int .u8 v6_) (.cons (.int .u8 v7_) (.cons (.int .u8 v8_) (.cons (.int .u8 v9_) (.cons (.int .u8 (.var 10)) (.cons (.int .u8 (.var 11)) (.cons (.int .u8 (.var 12)) (.cons (.int .u8 (.var 13)) (.cons (.int .u8 (.var 14)) (.cons (.int .u8 (.var 15)) .nil))))))))))))))))) (.cons (.vapp 6 (.cons (.tup .nil) (.cons (.int .i64 (.var 16)) .nil))) .nil))) (.wrap .u64 (ad_ (.var 17) (.lit 1))))))))))
abbrev zrc_pnum : Con := ⟨10, [(.agg (.cons (.int .u8 v0_) (.cons (.int .u8 v1_) (.cons (.int .u8 v2_) (.cons (.int .u8 v3_) (.cons (.int .u8 v4_) (.cons (.int .u8 v5_) (.cons (.int .u8 v6_) (.cons (.int .u8 v7_) (.cons (.int .u8 v8_) (.cons (.int .u8 v9_) (.cons (.int .u8 (.var 10)) (.cons (.int .u8 (.var 11)) (.cons (.int .u8 (.var 12)) (.cons (.int .u8 (.var 13)) (.cons (.int .u8 (.var 14)) (.cons (.int .u8 (.var 15)) .nil))))))))))))))))), (.int .i64 (.var 16)), (.int .u64 (.var 17))], (an_ (.bapp 0 (.cons (.tup (.cons (.int .u8 v0_) (.cons (.int .u8 v1_) (.cons (.int .u8 v2_) (.cons (.int .u8 v3_) (.cons (.int .u8 v4_) (.cons (.int .u8 v5_) (.cons (.int .u8 v6_) (.cons (.int .u8 v7_) (.cons (.int .u8 v8_) (.cons (.int .u8 v9_) (.cons (.int .u8 (.var 10)) (.cons (.int .u8 (.var 11)) (.cons (.int .u8 (.var 12)) (.cons (.int .u8 (.var 13)) (.cons (.int .u8 (.var 14)) (.cons (.int .u8 (.var 15)) .nil))))))))))))))))) .nil)) (an_ (an_ (le_ lm_ (.var 16)) (le_ (.var 16) lM_)) (an_ (le_ (.lit 0) (.var 17)) (le_ (.var 17) (.lit 18446744073709551615))))), (.int .u64 (.iapp 17 (.cons (.tup (.cons (.int .u8 v0_) (.cons (.int .u8 v1_) (.cons (.int .u8 v2_) (.cons (.int .u8 v3_) (.cons (.int .u8 v4_) (.cons (.int .u8 v5_) (.cons (.int .u8 v6_) (.cons (.int .u8 v7_) (.cons (.int .u8 v8_) (.cons (.int .u8 v9_) (.cons (.int .u8 (.var 10)) (.cons (.int .u8 (.var 11)) (.cons (.int .u8 (.var 12)) (.cons (.int .u8 (.var 13)) (.cons (.int .u8 (.var 14)) (.cons (.int .u8 (.var 15)) .nil))))))))))))))))) (.cons (.int .i64 (.var 16)) (.cons (.int .u64 (.var 17)) .nil))))), ⟨18, 0, 0, 0⟩, none⟩
theorem pnum_w : walk Try.prog 102 ⟨[zpc_i64p, zqc_psum], syG, [], [], []⟩ [] .v zrc_pnum zrc_pnum.n 3000 = some pnum_tree := by kernel_rfl
theorem pnum_h (k0 : Int) (k1 : Int) (k2 : Int) (k3 : Int) (k4 : Int) (k5 : Int) (k6 : Int) (k7 : Int) (k8 : Int) (k9 : Int) (k10 : Int) (k11 : Int) (k12 : Int) (k13 : Int) (k14 : Int) (k15 : Int) (p : Int) (n : Int) (hc : holds (zrE [k0, k1, k2, k3, k4, k5, k6, k7, k8, k9, k10, k11, k12, k13, k14, k15, p, n] [] [] []) (an_ (.bapp 0 (.cons (.tup (.cons (.int .u8 v0_) (.cons (.int .u8 v1_) (.cons (.int .u8 v2_) (.cons (.int .u8 v3_) (.cons (.int .u8 v4_) (.cons (.int .u8 v5_) (.cons (.int .u8 v6_) (.cons (.int .u8 v7_) (.cons (.int .u8 v8_) (.cons (.int .u8 v9_) (.cons (.int .u8 (.var 10)) (.cons (.int .u8 (.var 11)) (.cons (.int .u8 (.var 12)) (.cons (.int .u8 (.var 13)) (.cons (.int .u8 (.var 14)) (.cons (.int .u8 (.var 15)) .nil))))))))))))))))) .nil)) (an_ (an_ (le_ lm_ (.var 16)) (le_ (.var 16) lM_)) (an_ (le_ (.lit 0) (.var 17)) (le_ (.var 17) (.lit 18446744073709551615)))))) (hty : patsTyp (zrE [k0, k1, k2, k3, k4, k5, k6, k7, k8, k9, k10, k11, k12, k13, k14, k15, p, n] [] [] []) [(.agg (.cons (.int .u8 v0_) (.cons (.int .u8 v1_) (.cons (.int .u8 v2_) (.cons (.int .u8 v3_) (.cons (.int .u8 v4_) (.cons (.int .u8 v5_) (.cons (.int .u8 v6_) (.cons (.int .u8 v7_) (.cons (.int .u8 v8_) (.cons (.int .u8 v9_) (.cons (.int .u8 (.var 10)) (.cons (.int .u8 (.var 11)) (.cons (.int .u8 (.var 12)) (.cons (.int .u8 (.var 13)) (.cons (.int .u8 (.var 14)) (.cons (.int .u8 (.var 15)) .nil))))))))))))))))), (.int .i64 (.var 16)), (.int .u64 (.var 17))]) : pnum_tree.holds (fun v_ => v_ = denV (zrE [k0, k1, k2, k3, k4, k5, k6, k7, k8, k9, k10, k11, k12, k13, k14, k15, p, n] [] [] []) b0 (.int .u64 (.iapp 17 (.cons (.tup (.cons (.int .u8 v0_) (.cons (.int .u8 v1_) (.cons (.int .u8 v2_) (.cons (.int .u8 v3_) (.cons (.int .u8 v4_) (.cons (.int .u8 v5_) (.cons (.int .u8 v6_) (.cons (.int .u8 v7_) (.cons (.int .u8 v8_) (.cons (.int .u8 v9_) (.cons (.int .u8 (.var 10)) (.cons (.int .u8 (.var 11)) (.cons (.int .u8 (.var 12)) (.cons (.int .u8 (.var 13)) (.cons (.int .u8 (.var 14)) (.cons (.int .u8 (.var 15)) .nil))))))))))))))))) (.cons (.int .i64 (.var 16)) (.cons (.int .u64 (.var 17)) .nil)))))) (zrE [k0, k1, k2, k3, k4, k5, k6, k7, k8, k9, k10, k11, k12, k13, k14, k15, p, n] [] [] []) := by
  simp only [Tree.holds, Sy.holds, AllN, Env.more, zrE, List.cons_append, List.nil_append, List.append_nil, denV, denI, denB, denL, I2.den, VOp.den, List.getD_cons_zero, List.getD_cons_succ, Cst.den, syso, syse, syio, sybo, zrb_okr, List.map_nil, List.map_cons, B2.ofInts, B2.denI, B2.denB, if_true, Bool.false_eq_true, if_false, Nat.div_one, Nat.mul_one, Nat.add_zero, holds] at hc
  simp only [patsTyp, patTyp, patTypL, zrE, denV, denL, List.getD_cons_zero, List.getD_cons_succ, and_true, true_and] at hty
  unfold pnum_tree
  simp only [Tree.holds, Sy.holds, AllN, Env.more, zrE, List.cons_append, List.nil_append, List.append_nil, denV, denI, denB, denL, I2.den, VOp.den, List.getD_cons_zero, List.getD_cons_succ, Cst.den, syso, syse, syio, sybo, zri_sip, zri_nb, zrb_okr, zrv_p8, List.map_nil, List.map_cons, B2.ofInts, B2.denI, B2.denB, if_true, Bool.false_eq_true, if_false, Nat.div_one, Nat.mul_one, Nat.add_zero]
  generalize hKT : Value.tuple #[Value.int .u8 k0, Value.int .u8 k1, Value.int .u8 k2, Value.int .u8 k3, Value.int .u8 k4, Value.int .u8 k5, Value.int .u8 k6, Value.int .u8 k7, Value.int .u8 k8, Value.int .u8 k9, Value.int .u8 k10, Value.int .u8 k11, Value.int .u8 k12, Value.int .u8 k13, Value.int .u8 k14, Value.int .u8 k15] = KT at hc ⊢
  refine ⟨?_, fun h0 => ?_⟩
  ·
   first
   | omega
   | exact ⟨by rw [rows_nil]; decide, by omega, by omega⟩
   | exact ⟨hc.1, okP _, by rw [rows_put, List.length_append, numB_len, rows_nil]; decide⟩
   | (have := wr_u64 (n + 1)
      omega)
   | (intro he
      have := wr_u64 (n + 1)
      omega)
  ·
   refine ⟨?_, fun h1 => ?_⟩
   ·
    first
    | omega
    | exact ⟨by rw [rows_nil]; decide, by omega, by omega⟩
    | exact ⟨hc.1, okP _, by rw [rows_put, List.length_append, numB_len, rows_nil]; decide⟩
    | (have := wr_u64 (n + 1)
       omega)
    | (intro he
       have := wr_u64 (n + 1)
       omega)
   ·
    refine ⟨fun h2 => ?_, fun h2 => ?_⟩
    ·
     first
     | (refine congrArg (Value.int .u64) ?_
        unfold numS
        rw [if_pos (by omega)]
        rfl)
     | (refine congrArg (Value.int .u64) ?_
        have hw := wr_u64 (n + 1)
        have hs := sip_rng (byL (Sy.rows KT)) (byL (numB p 8))
        unfold numS
        rw [if_neg (by omega), show IntKind.wrap .u64 (n + 1) = n + 1 by omega]
        exact Int.tmod_eq_emod_of_nonneg hs.1)
    ·
     refine ⟨?_, fun h3 => ?_⟩
     ·
      first
      | omega
      | exact ⟨by rw [rows_nil]; decide, by omega, by omega⟩
      | exact ⟨hc.1, okP _, by rw [rows_put, List.length_append, numB_len, rows_nil]; decide⟩
      | (have := wr_u64 (n + 1)
         omega)
      | (intro he
         have := wr_u64 (n + 1)
         omega)
     ·
      first
      | (refine congrArg (Value.int .u64) ?_
         unfold numS
         rw [if_pos (by omega)]
         rfl)
      | (refine congrArg (Value.int .u64) ?_
         have hw := wr_u64 (n + 1)
         have hs := sip_rng (byL (Sy.rows KT)) (byL (numB p 8))
         unfold numS
         rw [if_neg (by omega), show IntKind.wrap .u64 (n + 1) = n + 1 by omega]
         exact Int.tmod_eq_emod_of_nonneg hs.1)
theorem zrg_pnum : zrc_pnum.Good Try.prog syG (zrE [] [] [] []) := good_of_walk (Γ := ⟨[zpc_i64p, zqc_psum], syG, [], [], []⟩) (ρ := zrE [] [] [] []) sym pnum_w rfl (fun _ _ _ _ => (ok_cons (Con.Good.env (Con.Good.up (Con.Good.up zpg_i64p zqup rfl) zrup rfl) _ _ _ _) (ok_cons (Con.Good.env (Con.Good.up zqg_psum zrup rfl) _ _ _ _) ok_nil))) (fun k0 k1 k2 k3 k4 k5 k6 k7 k8 k9 k10 k11 k12 k13 k14 k15 p n hc hty => pnum_h k0 k1 k2 k3 k4 k5 k6 k7 k8 k9 k10 k11 k12 k13 k14 k15 p n hc hty)
def rnum23_tree : Tree :=
 (.need (an_ (le_ (.ofI (.vop (.len 1) (.cons (.tup .nil) .nil))) (.lit 70368744177664)) (an_ (le_ (.lit 0) (.wrap .u64 (.var 16))) (le_ (.wrap .u64 (.var 16)) (.lit 18446744073709551615))))
 (.need (an_ (.bapp 0 (.cons (.tup (.cons (.int .u8 v0_) (.cons (.int .u8 v1_) (.cons (.int .u8 v2_) (.cons (.int .u8 v3_) (.cons (.int .u8 v4_) (.cons (.int .u8 v5_) (.cons (.int .u8 v6_) (.cons (.int .u8 v7_) (.cons (.int .u8 v8_) (.cons (.int .u8 v9_) (.cons (.int .u8 (.var 10)) (.cons (.int .u8 (.var 11)) (.cons (.int .u8 (.var 12)) (.cons (.int .u8 (.var 13)) (.cons (.int .u8 (.var 14)) (.cons (.int .u8 (.var 15)) .nil))))))))))))))))) .nil)) (an_ (.bapp 0 (.cons (.vapp 6 (.cons (.tup .nil) (.cons (.int .u64 (.wrap .u64 (.var 16))) .nil))) .nil)) (le_ (.ofI (.vop (.len 1) (.cons (.vapp 6 (.cons (.tup .nil) (.cons (.int .u64 (.wrap .u64 (.var 16))) .nil))) .nil))) (.lit 70368744177664))))
 (.br (eq_ (.var 17) (.lit 18446744073709551615))
 (.ret (.int .u64 (.iapp 16 (.cons (.tup (.cons (.int .u8 v0_) (.cons (.int .u8 v1_) (.cons (.int .u8 v2_) (.cons (.int .u8 v3_) (.cons (.int .u8 v4_) (.cons (.int .u8 v5_) (.cons (.int .u8 v6_) (.cons (.int .u8 v7_) (.cons (.int .u8 v8_) (.cons (.int .u8 v9_) (.cons (.int .u8 (.var 10)) (.cons (.int .u8 (.var 11)) (.cons (.int .u8 (.var 12)) (.cons (.int .u8 (.var 13)) (.cons (.int .u8 (.var 14)) (.cons (.int .u8 (.var 15)) .nil))))))))))))))))) (.cons (.vapp 6 (.cons (.tup .nil) (.cons (.int .u64 (.wrap .u64 (.var 16))) .nil))) .nil)))))
 (.need (.not (eq_ (.wrap .u64 (ad_ (.var 17) (.lit 1))) (.lit 0)))
 (.ret (.int .u64 (.i2 .rem (.iapp 16 (.cons (.tup (.cons (.int .u8 v0_) (.cons (.int .u8 v1_) (.cons (.int .u8 v2_) (.cons (.int .u8 v3_) (.cons (.int .u8 v4_) (.cons (.int .u8 v5_) (.cons (.int .u8 v6_) (.cons (.int .u8 v7_) (.cons (.int .u8 v8_) (.cons (.int .u8 v9_) (.cons (.int .u8 (.var 10)) (.cons (.int .u8 (.var 11)) (.cons (.int .u8 (.var 12)) (.cons (.int .u8 (.var 13)) (.cons (.int .u8 (.var 14)) (.cons (.int .u8 (.var 15)) .nil))))))))))))))))) (.cons (.vapp 6 (.cons (.tup .nil) (.cons (.int .u64 (.wrap .u64 (.var 16))) .nil))) .nil))) (.wrap .u64 (ad_ (.var 17) (.lit 1))))))))))
abbrev zrc_rnum23 : Con := ⟨11, [(.agg (.cons (.int .u8 v0_) (.cons (.int .u8 v1_) (.cons (.int .u8 v2_) (.cons (.int .u8 v3_) (.cons (.int .u8 v4_) (.cons (.int .u8 v5_) (.cons (.int .u8 v6_) (.cons (.int .u8 v7_) (.cons (.int .u8 v8_) (.cons (.int .u8 v9_) (.cons (.int .u8 (.var 10)) (.cons (.int .u8 (.var 11)) (.cons (.int .u8 (.var 12)) (.cons (.int .u8 (.var 13)) (.cons (.int .u8 (.var 14)) (.cons (.int .u8 (.var 15)) .nil))))))))))))))))), (.int .i64 (.var 16)), (.int .u64 (.var 17))], (an_ (.bapp 0 (.cons (.tup (.cons (.int .u8 v0_) (.cons (.int .u8 v1_) (.cons (.int .u8 v2_) (.cons (.int .u8 v3_) (.cons (.int .u8 v4_) (.cons (.int .u8 v5_) (.cons (.int .u8 v6_) (.cons (.int .u8 v7_) (.cons (.int .u8 v8_) (.cons (.int .u8 v9_) (.cons (.int .u8 (.var 10)) (.cons (.int .u8 (.var 11)) (.cons (.int .u8 (.var 12)) (.cons (.int .u8 (.var 13)) (.cons (.int .u8 (.var 14)) (.cons (.int .u8 (.var 15)) .nil))))))))))))))))) .nil)) (an_ (an_ (le_ lm_ (.var 16)) (le_ (.var 16) lM_)) (an_ (le_ (.lit 0) (.var 17)) (le_ (.var 17) (.lit 18446744073709551615))))), (.int .u64 (.iapp 17 (.cons (.tup (.cons (.int .u8 v0_) (.cons (.int .u8 v1_) (.cons (.int .u8 v2_) (.cons (.int .u8 v3_) (.cons (.int .u8 v4_) (.cons (.int .u8 v5_) (.cons (.int .u8 v6_) (.cons (.int .u8 v7_) (.cons (.int .u8 v8_) (.cons (.int .u8 v9_) (.cons (.int .u8 (.var 10)) (.cons (.int .u8 (.var 11)) (.cons (.int .u8 (.var 12)) (.cons (.int .u8 (.var 13)) (.cons (.int .u8 (.var 14)) (.cons (.int .u8 (.var 15)) .nil))))))))))))))))) (.cons (.int .i64 (.var 16)) (.cons (.int .u64 (.var 17)) .nil))))), ⟨18, 0, 0, 0⟩, none⟩
theorem rnum23_w : walk Try.prog 102 ⟨[zpc_rput8, zqc_rsum23], syG, [], [], []⟩ [] .v zrc_rnum23 zrc_rnum23.n 3000 = some rnum23_tree := by kernel_rfl
theorem rnum23_h (k0 : Int) (k1 : Int) (k2 : Int) (k3 : Int) (k4 : Int) (k5 : Int) (k6 : Int) (k7 : Int) (k8 : Int) (k9 : Int) (k10 : Int) (k11 : Int) (k12 : Int) (k13 : Int) (k14 : Int) (k15 : Int) (p : Int) (n : Int) (hc : holds (zrE [k0, k1, k2, k3, k4, k5, k6, k7, k8, k9, k10, k11, k12, k13, k14, k15, p, n] [] [] []) (an_ (.bapp 0 (.cons (.tup (.cons (.int .u8 v0_) (.cons (.int .u8 v1_) (.cons (.int .u8 v2_) (.cons (.int .u8 v3_) (.cons (.int .u8 v4_) (.cons (.int .u8 v5_) (.cons (.int .u8 v6_) (.cons (.int .u8 v7_) (.cons (.int .u8 v8_) (.cons (.int .u8 v9_) (.cons (.int .u8 (.var 10)) (.cons (.int .u8 (.var 11)) (.cons (.int .u8 (.var 12)) (.cons (.int .u8 (.var 13)) (.cons (.int .u8 (.var 14)) (.cons (.int .u8 (.var 15)) .nil))))))))))))))))) .nil)) (an_ (an_ (le_ lm_ (.var 16)) (le_ (.var 16) lM_)) (an_ (le_ (.lit 0) (.var 17)) (le_ (.var 17) (.lit 18446744073709551615)))))) (hty : patsTyp (zrE [k0, k1, k2, k3, k4, k5, k6, k7, k8, k9, k10, k11, k12, k13, k14, k15, p, n] [] [] []) [(.agg (.cons (.int .u8 v0_) (.cons (.int .u8 v1_) (.cons (.int .u8 v2_) (.cons (.int .u8 v3_) (.cons (.int .u8 v4_) (.cons (.int .u8 v5_) (.cons (.int .u8 v6_) (.cons (.int .u8 v7_) (.cons (.int .u8 v8_) (.cons (.int .u8 v9_) (.cons (.int .u8 (.var 10)) (.cons (.int .u8 (.var 11)) (.cons (.int .u8 (.var 12)) (.cons (.int .u8 (.var 13)) (.cons (.int .u8 (.var 14)) (.cons (.int .u8 (.var 15)) .nil))))))))))))))))), (.int .i64 (.var 16)), (.int .u64 (.var 17))]) : rnum23_tree.holds (fun v_ => v_ = denV (zrE [k0, k1, k2, k3, k4, k5, k6, k7, k8, k9, k10, k11, k12, k13, k14, k15, p, n] [] [] []) b0 (.int .u64 (.iapp 17 (.cons (.tup (.cons (.int .u8 v0_) (.cons (.int .u8 v1_) (.cons (.int .u8 v2_) (.cons (.int .u8 v3_) (.cons (.int .u8 v4_) (.cons (.int .u8 v5_) (.cons (.int .u8 v6_) (.cons (.int .u8 v7_) (.cons (.int .u8 v8_) (.cons (.int .u8 v9_) (.cons (.int .u8 (.var 10)) (.cons (.int .u8 (.var 11)) (.cons (.int .u8 (.var 12)) (.cons (.int .u8 (.var 13)) (.cons (.int .u8 (.var 14)) (.cons (.int .u8 (.var 15)) .nil))))))))))))))))) (.cons (.int .i64 (.var 16)) (.cons (.int .u64 (.var 17)) .nil)))))) (zrE [k0, k1, k2, k3, k4, k5, k6, k7, k8, k9, k10, k11, k12, k13, k14, k15, p, n] [] [] []) := by
  simp only [Tree.holds, Sy.holds, AllN, Env.more, zrE, List.cons_append, List.nil_append, List.append_nil, denV, denI, denB, denL, I2.den, VOp.den, List.getD_cons_zero, List.getD_cons_succ, Cst.den, syso, syse, syio, sybo, zrb_okr, List.map_nil, List.map_cons, B2.ofInts, B2.denI, B2.denB, if_true, Bool.false_eq_true, if_false, Nat.div_one, Nat.mul_one, Nat.add_zero, holds] at hc
  simp only [patsTyp, patTyp, patTypL, zrE, denV, denL, List.getD_cons_zero, List.getD_cons_succ, and_true, true_and] at hty
  unfold rnum23_tree
  simp only [Tree.holds, Sy.holds, AllN, Env.more, zrE, List.cons_append, List.nil_append, List.append_nil, denV, denI, denB, denL, I2.den, VOp.den, List.getD_cons_zero, List.getD_cons_succ, Cst.den, syso, syse, syio, sybo, zri_sip, zri_nb, zrb_okr, zrv_p8, List.map_nil, List.map_cons, B2.ofInts, B2.denI, B2.denB, if_true, Bool.false_eq_true, if_false, Nat.div_one, Nat.mul_one, Nat.add_zero]
  generalize hKT : Value.tuple #[Value.int .u8 k0, Value.int .u8 k1, Value.int .u8 k2, Value.int .u8 k3, Value.int .u8 k4, Value.int .u8 k5, Value.int .u8 k6, Value.int .u8 k7, Value.int .u8 k8, Value.int .u8 k9, Value.int .u8 k10, Value.int .u8 k11, Value.int .u8 k12, Value.int .u8 k13, Value.int .u8 k14, Value.int .u8 k15] = KT at hc ⊢
  have wp := wr_u64 p
  have hp : putV (Sy.rows (Value.tuple #[])) (IntKind.wrap .u64 p) 8 = putV (Sy.rows (Value.tuple #[])) p 8 := by unfold putV; rw [numB_u64 (by omega) (by omega)]
  simp only [hp]
  refine ⟨?_, fun h0 => ?_⟩
  ·
   first
   | omega
   | exact ⟨by rw [rows_nil]; decide, by omega, by omega⟩
   | exact ⟨hc.1, okP _, by rw [rows_put, List.length_append, numB_len, rows_nil]; decide⟩
   | (have := wr_u64 (n + 1)
      omega)
   | (intro he
      have := wr_u64 (n + 1)
      omega)
  ·
   try simp only [hw0]
   refine ⟨?_, fun h1 => ?_⟩
   ·
    first
    | omega
    | exact ⟨by rw [rows_nil]; decide, by omega, by omega⟩
    | exact ⟨hc.1, okP _, by rw [rows_put, List.length_append, numB_len, rows_nil]; decide⟩
    | (have := wr_u64 (n + 1)
       omega)
    | (intro he
       have := wr_u64 (n + 1)
       omega)
   ·
    refine ⟨fun h2 => ?_, fun h2 => ?_⟩
    ·
     try simp only [hw0]
     first
     | (refine congrArg (Value.int .u64) ?_
        unfold numS
        rw [if_pos (by omega)]
        rfl)
     | (refine congrArg (Value.int .u64) ?_
        have hw := wr_u64 (n + 1)
        have hs := sip_rng (byL (Sy.rows KT)) (byL (numB p 8))
        unfold numS
        rw [if_neg (by omega), show IntKind.wrap .u64 (n + 1) = n + 1 by omega]
        exact Int.tmod_eq_emod_of_nonneg hs.1)
    ·
     refine ⟨?_, fun h3 => ?_⟩
     ·
      first
      | omega
      | exact ⟨by rw [rows_nil]; decide, by omega, by omega⟩
      | exact ⟨hc.1, okP _, by rw [rows_put, List.length_append, numB_len, rows_nil]; decide⟩
      | (have := wr_u64 (n + 1)
         omega)
      | (intro he
         have := wr_u64 (n + 1)
         omega)
     ·
      try simp only [hw0]
      first
      | (refine congrArg (Value.int .u64) ?_
         unfold numS
         rw [if_pos (by omega)]
         rfl)
      | (refine congrArg (Value.int .u64) ?_
         have hw := wr_u64 (n + 1)
         have hs := sip_rng (byL (Sy.rows KT)) (byL (numB p 8))
         unfold numS
         rw [if_neg (by omega), show IntKind.wrap .u64 (n + 1) = n + 1 by omega]
         exact Int.tmod_eq_emod_of_nonneg hs.1)
theorem zrg_rnum23 : zrc_rnum23.Good Try.prog syG (zrE [] [] [] []) := good_of_walk (Γ := ⟨[zpc_rput8, zqc_rsum23], syG, [], [], []⟩) (ρ := zrE [] [] [] []) sym rnum23_w rfl (fun _ _ _ _ => (ok_cons (Con.Good.env (Con.Good.up (Con.Good.up zpg_rput8 zqup rfl) zrup rfl) _ _ _ _) (ok_cons (Con.Good.env (Con.Good.up zqg_rsum23 zrup rfl) _ _ _ _) ok_nil))) (fun k0 k1 k2 k3 k4 k5 k6 k7 k8 k9 k10 k11 k12 k13 k14 k15 p n hc hty => rnum23_h k0 k1 k2 k3 k4 k5 k6 k7 k8 k9 k10 k11 k12 k13 k14 k15 p n hc hty)
end Go.Proofs.Ytbgmbbkmadkhgaa
