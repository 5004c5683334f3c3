/-
  Layer 23 by the second engine: words, turns, rounds.
-/
import Derived.Test.YtbgmbbkmadkhgaaGreatDoorSycqi
import Derived.Test.YtbgmbbkmadkhgaaGreatDoorZ6bqi
import Derived.Test.YtbgmbbkmadkhgaaGreatDoorSpmqi
namespace Go.Proofs.YtbgmbbkmadkhgaaGreatDoor
open Go.RowKit Go.Extern.Stop Go.Stop Go.Extern Go.Proofs.YtbgmbbkmadkhgaaGreatDoor.Sy
set_option linter.unusedVariables false
set_option linter.unusedSimpArgs false
noncomputable def eqV (x y : Value) : Bool := @decide (x = y) (Classical.propDecidable _)
theorem rows_nil : Sy.rows (Value.tuple #[]) = [] := rfl
theorem put_rows (l : List Value) (v : Int) (n : Nat) : Sy.rows (putV l v n) = l ++ numB v n := rfl
theorem okR_rl (l : List UInt8) : okR (Sy.rows (Value.tuple (l.map bV).toArray)) = true := okR_isB (isB_bV _)
theorem t8 : Int.toNat 8 = 8 := rfl
theorem t1 : Int.toNat 1 = 1 := rfl
noncomputable def zpI : Nat → List Value → Int
  | 10, [.int _ x, .int _ k] => rlI k.toNat x
  | 11, [.int _ a, .int _ b, .int _ c, .int _ d, .int _ k] => spC (rndS ⟨a, b, c, d⟩) k.toNat
  | 12, [.int _ a, .int _ b, .int _ c, .int _ d, .int _ w, .int _ k] => spC (tkS ⟨a, b, c, d⟩ w) k.toNat
  | 13, [.int _ a, .int _ b, .int _ c, .int _ d, .int _ n, .int _ k] => spC (rndN ⟨a, b, c, d⟩ n.toNat) k.toNat
  | 14, [k, l, .int _ n, .int _ j] => spC (stN (byL (rows k)) (padL (byL (rows l))) n.toNat) j.toNat
  | 15, [k, l, .int _ n, .int _ j] => spC (rndN (preF (byL (rows k)) (byL (rows l))) n.toNat) j.toNat
  | 16, [k, l] => sipS (byL (rows k)) (byL (rows l))
  | 17, [k, .int _ p, .int _ n] => numS (byL (rows k)) p n
  | 18, [k, .int _ u, .int _ j] => Go.RowKit.intOf ((drvL (byL (rows k)) u).getD j.toNat Go.undef)
  | i, l => zb6I i l
noncomputable def zpB : Nat → List Value → Bool
  | 3, [x, y] => eqV x y
  | i, l => zb6B i l
noncomputable def zpV : Nat → List Value → Value
  | 9, [l] => Value.tuple ((padL (byL (rows l))).map bV).toArray
  | 10, [l, .int _ n] => Value.tuple (rows l ++ List.replicate n.toNat (Value.int .u8 0)).toArray
  | 11, [l, .int _ a, .int _ n] => Value.tuple (((rows l).take (8 * a.toNat)).drop (8 * n.toNat)).toArray
  | i, l => zb6V i l
noncomputable abbrev zpE (iv : List Int) (bv : List Bool) (vv : List Value) (sv : List ByteArray) : Env := { iv := iv, bv := bv, vv := vv, sv := sv, fi := zpI, fb := zpB, fv := zpV, et := 81 }
set_option maxHeartbeats 8000000 in
theorem zpup : Agree 10 3 9 (zb6E [] [] [] []) (zpE [] [] [] []) := ⟨rfl, (by
    intro f hf
    funext l
    show zpI f l = zb6I f l
    unfold zpI
    split <;> first | rfl | omega), (by
    intro f hf
    funext l
    show zpB f l = zb6B f l
    unfold zpB
    split <;> first | rfl | omega), (by
    intro f hf
    funext l
    show zpV f l = zb6V f l
    unfold zpV
    split <;> first | rfl | omega)⟩
theorem zpi_rn (l : Value) (k1 : IntKind) (k : Int) : zpI 0 [l, .int k1 k] = ((getV (byL (rows l)) k.toNat : Nat) : Int) := rfl
theorem zpb_okr (l : Value) : zpB 0 [l] = okR (rows l) := rfl
theorem zpb_rs (l : Value) (s : Bool) (k1 : IntKind) (k : Int) : zpB 1 [l, .bool s, .int k1 k] = getS (byL (rows l)) s k.toNat := rfl
theorem zpv_rl (l : Value) (k1 : IntKind) (k : Int) : zpV 0 [l, .int k1 k] = Value.tuple ((getL (byL (rows l)) k.toNat).map bV).toArray := rfl
theorem zpv_p8 (l : Value) (k1 : IntKind) (v : Int) : zpV 6 [l, .int k1 v] = putV (rows l) v 8 := rfl
def i64p_tree : Tree :=
 (.need (an_ (le_ (.ofI (.vop (.len 1) (.cons o0_ .nil))) (.lit 140737488355000)) (an_ (le_ (.lit 0) (.wrap .u64 v0_)) (le_ (.wrap .u64 v0_) (.lit 18446744073709551615))))
 (.ret (.hs (.new 5) (.cons (.int .u8) .nil) (.vapp 6 (.cons o0_ (.cons (.int .i64 (.wrap .u64 v0_)) .nil))))))
abbrev zpc_i64p : Con := ⟨18, [(.hs .no (.cons (.int .u8) .nil) o0_), z0_], (an_ (le_ (.ofI (.vop (.len 1) (.cons o0_ .nil))) (.lit 70368744177664)) (an_ (le_ lm_ v0_) (le_ v0_ lM_))), (.hs (.new 5) (.cons (.int .u8) .nil) (.vapp 6 (.cons o0_ (.cons z0_ .nil)))), ⟨1, 0, 1, 0⟩, none⟩
theorem i64p_w : walk Tryz.prog 81 ⟨[z6c_num8], syG, [], [], []⟩ [] (.o 5 (.cons (.int .u8) .nil)) zpc_i64p zpc_i64p.n 3000 = some i64p_tree := by kernel_rfl
theorem i64p_h (v : Int) (l : Value) (hc : holds (zpE [v] [] [l] []) (an_ (le_ (.ofI (.vop (.len 1) (.cons o0_ .nil))) (.lit 70368744177664)) (an_ (le_ lm_ v0_) (le_ v0_ lM_)))) (hty : patsTyp (zpE [v] [] [l] []) [(.hs .no (.cons (.int .u8) .nil) o0_), z0_]) : i64p_tree.holds (fun v_ => v_ = denV (zpE [v] [] [l] []) b0 (.hs (.new 5) (.cons (.int .u8) .nil) (.vapp 6 (.cons o0_ (.cons z0_ .nil))))) (zpE [v] [] [l] []) := by
  simp only [Tree.holds, Sy.holds, AllN, Env.more, zpE, List.cons_append, List.nil_append, List.append_nil, denV, denI, denB, denL, I2.den, VOp.den, List.getD_cons_zero, List.getD_cons_succ, Cst.den, syso, syse, syio, sybo, List.map_nil, List.map_cons, B2.ofInts, B2.denI, B2.denB, if_true, Bool.false_eq_true, if_false, Nat.div_one, Nat.mul_one, Nat.add_zero, holds] at hc
  simp only [patsTyp, patTyp, patTypL, zpE, denV, denL, List.getD_cons_zero, List.getD_cons_succ, and_true, true_and] at hty
  have hL_l : typ (.sl (.cons (.int .u8) .nil)) l := by first | exact hty | exact hty.1 | exact hty.2 | exact hty.1.1 | exact hty.1.2 | exact hty.2.1 | exact hty.2.2 | exact hty.2.2.1 | exact hty.2.2.2
  have hN_l := typ_len (n := 1) hL_l rfl (by omega)
  simp only [Nat.div_one, Nat.mul_one] at hN_l
  unfold i64p_tree
  simp only [Tree.holds, Sy.holds, AllN, Env.more, zpE, List.cons_append, List.nil_append, List.append_nil, denV, denI, denB, denL, I2.den, VOp.den, List.getD_cons_zero, List.getD_cons_succ, Cst.den, syso, syse, syio, sybo, zpv_p8, List.map_nil, List.map_cons, B2.ofInts, B2.denI, B2.denB, if_true, Bool.false_eq_true, if_false, Nat.div_one, Nat.mul_one, Nat.add_zero]
  have wf0 := wr_u64 v
  refine ⟨?_, fun h0 => ?_⟩
  ·
   first
   | omega
   | (have := wr_u64 v
      omega)
  ·
   try simp only [hw0]
   unfold putV
   rw [numB_u64 (by omega) (by omega)]
theorem zpg_i64p : zpc_i64p.Good Tryz.prog syG (zpE [] [] [] []) := good_of_walk (Γ := ⟨[z6c_num8], syG, [], [], []⟩) (ρ := zpE [] [] [] []) sym i64p_w rfl (fun _ _ _ _ => (ok_cons (Con.Good.env (Con.Good.up (Con.Good.up z6g_num8 zb6up rfl) zpup rfl) _ _ _ _) ok_nil)) (fun v l hc hty => i64p_h v l hc hty)
def rput8_x0 : Tm := (.tup (.cons (.int .u8 (.wrap .u8 (.i2 .rem (.wrap .u64 (.i2 .quo (.wrap .u64 (.i2 .quo (.wrap .u64 (.i2 .quo v0_ (.lit 256))) (.lit 256))) (.lit 256))) (.lit 256)))) .nil))
def rput8_x1 : Tm := (.tup (.cons (.int .u8 (.wrap .u8 (.i2 .rem (.wrap .u64 (.i2 .quo (.wrap .u64 (.i2 .quo v0_ (.lit 256))) (.lit 256))) (.lit 256)))) .nil))
def rput8_x2 : Tm := (.tup (.cons (.int .u8 (.wrap .u8 (.i2 .rem (.wrap .u64 (.i2 .quo (.wrap .u64 (.i2 .quo (.wrap .u64 (.i2 .quo (.wrap .u64 (.i2 .quo v0_ (.lit 256))) (.lit 256))) (.lit 256))) (.lit 256))) (.lit 256)))) .nil))
def rput8_x3 : Tm := (.tup (.cons (.int .u8 (.wrap .u8 (.i2 .rem (.wrap .u64 (.i2 .quo v0_ (.lit 256))) (.lit 256)))) .nil))
def rput8_x4 : Tm := (.tup (.cons (.int .u8 (.wrap .u8 (.i2 .rem (.wrap .u64 (.i2 .quo (.wrap .u64 (.i2 .quo (.wrap .u64 (.i2 .quo (.wrap .u64 (.i2 .quo (.wrap .u64 (.i2 .quo v0_ (.lit 256))) (.lit 256))) (.lit 256))) (.lit 256))) (.lit 256))) (.lit 256)))) .nil))
def rput8_x5 : Tm := (.tup (.cons (.int .u8 (.wrap .u8 (.i2 .rem v0_ (.lit 256)))) .nil))
def rput8_tree : Tree :=
 (.need (le_ (ad_ (.lit 0) (.ofI (.vop (.len 1) (.cons o0_ .nil)))) (.lit 140737488355328))
 (.need (le_ (ad_ (.ofI (.vop (.len 1) (.cons o0_ .nil))) (.lit 1)) (.lit 140737488355328))
 (.need (le_ (ad_ (.ofI (.vop (.len 1) (.cons (.vop .cat (.cons o0_ (.cons rput8_x5 .nil))) .nil))) (.lit 1)) (.lit 140737488355328))
 (.need (le_ (ad_ (.ofI (.vop (.len 1) (.cons (.vop .cat (.cons (.vop .cat (.cons o0_ (.cons rput8_x5 .nil))) (.cons rput8_x3 .nil))) .nil))) (.lit 1)) (.lit 140737488355328))
 (.need (le_ (ad_ (.ofI (.vop (.len 1) (.cons (.vop .cat (.cons (.vop .cat (.cons (.vop .cat (.cons o0_ (.cons rput8_x5 .nil))) (.cons rput8_x3 .nil))) (.cons rput8_x1 .nil))) .nil))) (.lit 1)) (.lit 140737488355328))
 (.need (le_ (ad_ (.ofI (.vop (.len 1) (.cons (.vop .cat (.cons (.vop .cat (.cons (.vop .cat (.cons (.vop .cat (.cons o0_ (.cons rput8_x5 .nil))) (.cons rput8_x3 .nil))) (.cons rput8_x1 .nil))) (.cons rput8_x0 .nil))) .nil))) (.lit 1)) (.lit 140737488355328))
 (.need (le_ (ad_ (.ofI (.vop (.len 1) (.cons (.vop .cat (.cons (.vop .cat (.cons (.vop .cat (.cons (.vop .cat (.cons (.vop .cat (.cons o0_ (.cons rput8_x5 .nil))) (.cons rput8_x3 .nil))) (.cons rput8_x1 .nil))) (.cons rput8_x0 .nil))) (.cons rput8_x2 .nil))) .nil))) (.lit 1)) (.lit 140737488355328))
 (.need (le_ (ad_ (.ofI (.vop (.len 1) (.cons (.vop .cat (.cons (.vop .cat (.cons (.vop .cat (.cons (.vop .cat (.cons (.vop .cat (.cons (.vop .cat (.cons o0_ (.cons rput8_x5 .nil))) (.cons rput8_x3 .nil))) (.cons rput8_x1 .nil))) (.cons rput8_x0 .nil))) (.cons rput8_x2 .nil))) (.cons rput8_x4 .nil))) .nil))) (.lit 1)) (.lit 140737488355328))
 (.need (le_ (ad_ (.ofI (.vop (.len 1) (.cons (.vop .cat (.cons (.vop .cat (.cons (.vop .cat (.cons (.vop .cat (.cons (.vop .cat (.cons (.vop .cat (.cons (.vop .cat (.cons o0_ (.cons rput8_x5 .nil))) (.cons rput8_x3 .nil))) (.cons rput8_x1 .nil))) (.cons rput8_x0 .nil))) (.cons rput8_x2 .nil))) (.cons rput8_x4 .nil))) (.cons (.tup (.cons (.int .u8 (.wrap .u8 (.i2 .rem (.wrap .u64 (.i2 .quo (.wrap .u64 (.i2 .quo (.wrap .u64 (.i2 .quo (.wrap .u64 (.i2 .quo (.wrap .u64 (.i2 .quo (.wrap .u64 (.i2 .quo v0_ (.lit 256))) (.lit 256))) (.lit 256))) (.lit 256))) (.lit 256))) (.lit 256))) (.lit 256)))) .nil)) .nil))) .nil))) (.lit 1)) (.lit 140737488355328))
 (.ret (.hs (.new 5) (.cons (.int .u8) .nil) (.vop .cat (.cons (.vop .cat (.cons (.vop .cat (.cons (.vop .cat (.cons (.vop .cat (.cons (.vop .cat (.cons (.vop .cat (.cons (.vop .cat (.cons o0_ (.cons rput8_x5 .nil))) (.cons rput8_x3 .nil))) (.cons rput8_x1 .nil))) (.cons rput8_x0 .nil))) (.cons rput8_x2 .nil))) (.cons rput8_x4 .nil))) (.cons (.tup (.cons (.int .u8 (.wrap .u8 (.i2 .rem (.wrap .u64 (.i2 .quo (.wrap .u64 (.i2 .quo (.wrap .u64 (.i2 .quo (.wrap .u64 (.i2 .quo (.wrap .u64 (.i2 .quo (.wrap .u64 (.i2 .quo v0_ (.lit 256))) (.lit 256))) (.lit 256))) (.lit 256))) (.lit 256))) (.lit 256))) (.lit 256)))) .nil)) .nil))) (.cons (.tup (.cons (.int .u8 (.wrap .u8 (.i2 .rem (.wrap .u64 (.i2 .quo (.wrap .u64 (.i2 .quo (.wrap .u64 (.i2 .quo (.wrap .u64 (.i2 .quo (.wrap .u64 (.i2 .quo (.wrap .u64 (.i2 .quo (.wrap .u64 (.i2 .quo v0_ (.lit 256))) (.lit 256))) (.lit 256))) (.lit 256))) (.lit 256))) (.lit 256))) (.lit 256))) (.lit 256)))) .nil)) .nil))))))))))))))
abbrev zpc_rput8 : Con := ⟨22, [(.hs .no (.cons (.int .u8) .nil) o0_), (.int .u64 v0_), (.int .i64 (.lit 8))], (an_ (le_ (.ofI (.vop (.len 1) (.cons o0_ .nil))) (.lit 70368744177664)) (an_ (le_ (.lit 0) v0_) (le_ v0_ (.lit 18446744073709551615)))), (.hs (.new 5) (.cons (.int .u8) .nil) (.vapp 6 (.cons o0_ (.cons (.int .u64 v0_) .nil)))), ⟨1, 0, 1, 0⟩, none⟩
theorem rput8_w : walk Tryz.prog 81 ⟨[], syG, [], [], []⟩ [] (.o 5 (.cons (.int .u8) .nil)) zpc_rput8 zpc_rput8.n 3000 = some rput8_tree := by kernel_rfl
theorem rput8_h (v : Int) (l : Value) (hc : holds (zpE [v] [] [l] []) (an_ (le_ (.ofI (.vop (.len 1) (.cons o0_ .nil))) (.lit 70368744177664)) (an_ (le_ (.lit 0) v0_) (le_ v0_ (.lit 18446744073709551615))))) (hty : patsTyp (zpE [v] [] [l] []) [(.hs .no (.cons (.int .u8) .nil) o0_), (.int .u64 v0_), (.int .i64 (.lit 8))]) : rput8_tree.holds (fun v_ => v_ = denV (zpE [v] [] [l] []) b0 (.hs (.new 5) (.cons (.int .u8) .nil) (.vapp 6 (.cons o0_ (.cons (.int .u64 v0_) .nil))))) (zpE [v] [] [l] []) := by
  simp only [Tree.holds, Sy.holds, AllN, Env.more, zpE, List.cons_append, List.nil_append, List.append_nil, denV, denI, denB, denL, I2.den, VOp.den, List.getD_cons_zero, List.getD_cons_succ, Cst.den, syso, syse, syio, sybo, List.map_nil, List.map_cons, B2.ofInts, B2.denI, B2.denB, if_true, Bool.false_eq_true, if_false, Nat.div_one, Nat.mul_one, Nat.add_zero, holds] at hc
  simp only [patsTyp, patTyp, patTypL, zpE, denV, denL, List.getD_cons_zero, List.getD_cons_succ, and_true, true_and] at hty
  have hL_l : typ (.sl (.cons (.int .u8) .nil)) l := by first | exact hty | exact hty.1 | exact hty.2 | exact hty.1.1 | exact hty.1.2 | exact hty.2.1 | exact hty.2.2 | exact hty.2.2.1 | exact hty.2.2.2
  have hN_l := typ_len (n := 1) hL_l rfl (by omega)
  simp only [Nat.div_one, Nat.mul_one] at hN_l
  unfold rput8_tree
  simp only [rput8_x0, rput8_x1, rput8_x2, rput8_x3, rput8_x4, rput8_x5]
  simp only [Tree.holds, Sy.holds, AllN, Env.more, zpE, List.cons_append, List.nil_append, List.append_nil, denV, denI, denB, denL, I2.den, VOp.den, List.getD_cons_zero, List.getD_cons_succ, Cst.den, syso, syse, syio, sybo, zpv_p8, List.map_nil, List.map_cons, B2.ofInts, B2.denI, B2.denB, if_true, Bool.false_eq_true, if_false, Nat.div_one, Nat.mul_one, Nat.add_zero]
  refine ⟨?_, fun h0 => ?_⟩
  ·
   first
   | omega
   | (simp only [rows_tup, List.length_append, List.length_cons, List.length_nil, List.size_toArray]
      omega)
   | exact hc.1
  ·
   refine ⟨?_, fun h1 => ?_⟩
   ·
    first
    | omega
    | (simp only [rows_tup, List.length_append, List.length_cons, List.length_nil, List.size_toArray]
       omega)
    | exact hc.1
   ·
    refine ⟨?_, fun h2 => ?_⟩
    ·
     first
     | omega
     | (simp only [rows_tup, List.length_append, List.length_cons, List.length_nil, List.size_toArray]
        omega)
     | exact hc.1
    ·
     try simp only [hw0]
     refine ⟨?_, fun h3 => ?_⟩
     ·
      first
      | omega
      | (simp only [rows_tup, List.length_append, List.length_cons, List.length_nil, List.size_toArray]
         omega)
      | exact hc.1
     ·
      try simp only [hw2]
      try simp only [hw1]
      try simp only [hw0]
      refine ⟨?_, fun h4 => ?_⟩
      ·
       first
       | omega
       | (simp only [rows_tup, List.length_append, List.length_cons, List.length_nil, List.size_toArray]
          omega)
       | exact hc.1
      ·
       try simp only [hw4]
       try simp only [hw3]
       try simp only [hw2]
       try simp only [hw1]
       try simp only [hw0]
       refine ⟨?_, fun h5 => ?_⟩
       ·
        first
        | omega
        | (simp only [rows_tup, List.length_append, List.length_cons, List.length_nil, List.size_toArray]
           omega)
        | exact hc.1
       ·
        try simp only [hw6]
        try simp only [hw5]
        try simp only [hw4]
        try simp only [hw3]
        try simp only [hw2]
        try simp only [hw1]
        try simp only [hw0]
        refine ⟨?_, fun h6 => ?_⟩
        ·
         first
         | omega
         | (simp only [rows_tup, List.length_append, List.length_cons, List.length_nil, List.size_toArray]
            omega)
         | exact hc.1
        ·
         try simp only [hw8]
         try simp only [hw7]
         try simp only [hw6]
         try simp only [hw5]
         try simp only [hw4]
         try simp only [hw3]
         try simp only [hw2]
         try simp only [hw1]
         try simp only [hw0]
         refine ⟨?_, fun h7 => ?_⟩
         ·
          first
          | omega
          | (simp only [rows_tup, List.length_append, List.length_cons, List.length_nil, List.size_toArray]
             omega)
          | exact hc.1
         ·
          try simp only [hw10]
          try simp only [hw9]
          try simp only [hw8]
          try simp only [hw7]
          try simp only [hw6]
          try simp only [hw5]
          try simp only [hw4]
          try simp only [hw3]
          try simp only [hw2]
          try simp only [hw1]
          try simp only [hw0]
          refine ⟨?_, fun h8 => ?_⟩
          ·
           first
           | omega
           | (simp only [rows_tup, List.length_append, List.length_cons, List.length_nil, List.size_toArray]
              omega)
           | exact hc.1
          ·
           try simp only [hw12]
           try simp only [hw11]
           try simp only [hw10]
           try simp only [hw9]
           try simp only [hw8]
           try simp only [hw7]
           try simp only [hw6]
           try simp only [hw5]
           try simp only [hw4]
           try simp only [hw3]
           try simp only [hw2]
           try simp only [hw1]
           try simp only [hw0]
           simp only [rows_tup, List.append_assoc, List.cons_append, List.nil_append, putV]
           obtain ⟨v1, hv1⟩ : ∃ x, x = v / 256 := ⟨_, rfl⟩
           have b1 : 0 ≤ v1 ∧ v1 ≤ 18446744073709551615 := by omega
           have e1 : IntKind.wrap .u64 (v.tdiv 256) = v1 := by rw [td8 (by omega), wrap_u64]; omega
           simp only [e1]
           obtain ⟨v2, hv2⟩ : ∃ x, x = v1 / 256 := ⟨_, rfl⟩
           have b2 : 0 ≤ v2 ∧ v2 ≤ 18446744073709551615 := by omega
           have e2 : IntKind.wrap .u64 (v1.tdiv 256) = v2 := by rw [td8 (by omega), wrap_u64]; omega
           simp only [e2]
           obtain ⟨v3, hv3⟩ : ∃ x, x = v2 / 256 := ⟨_, rfl⟩
           have b3 : 0 ≤ v3 ∧ v3 ≤ 18446744073709551615 := by omega
           have e3 : IntKind.wrap .u64 (v2.tdiv 256) = v3 := by rw [td8 (by omega), wrap_u64]; omega
           simp only [e3]
           obtain ⟨v4, hv4⟩ : ∃ x, x = v3 / 256 := ⟨_, rfl⟩
           have b4 : 0 ≤ v4 ∧ v4 ≤ 18446744073709551615 := by omega
           have e4 : IntKind.wrap .u64 (v3.tdiv 256) = v4 := by rw [td8 (by omega), wrap_u64]; omega
           simp only [e4]
           obtain ⟨v5, hv5⟩ : ∃ x, x = v4 / 256 := ⟨_, rfl⟩
           have b5 : 0 ≤ v5 ∧ v5 ≤ 18446744073709551615 := by omega
           have e5 : IntKind.wrap .u64 (v4.tdiv 256) = v5 := by rw [td8 (by omega), wrap_u64]; omega
           simp only [e5]
           obtain ⟨v6, hv6⟩ : ∃ x, x = v5 / 256 := ⟨_, rfl⟩
           have b6 : 0 ≤ v6 ∧ v6 ≤ 18446744073709551615 := by omega
           have e6 : IntKind.wrap .u64 (v5.tdiv 256) = v6 := by rw [td8 (by omega), wrap_u64]; omega
           simp only [e6]
           obtain ⟨v7, hv7⟩ : ∃ x, x = v6 / 256 := ⟨_, rfl⟩
           have b7 : 0 ≤ v7 ∧ v7 ≤ 18446744073709551615 := by omega
           have e7 : IntKind.wrap .u64 (v6.tdiv 256) = v7 := by rw [td8 (by omega), wrap_u64]; omega
           simp only [e7]
           simp only [wrap_u8, tm8 (show 0 ≤ v by omega), tm8 (show 0 ≤ v1 by omega), tm8 (show 0 ≤ v2 by omega), tm8 (show 0 ≤ v3 by omega), tm8 (show 0 ≤ v4 by omega), tm8 (show 0 ≤ v5 by omega), tm8 (show 0 ≤ v6 by omega), tm8 (show 0 ≤ v7 by omega), Int.emod_emod]
           refine tup_congr ?_
           simp only [numB, ← hv1, ← hv2, ← hv3, ← hv4, ← hv5, ← hv6, ← hv7]
theorem zpg_rput8 : zpc_rput8.Good Tryz.prog syG (zpE [] [] [] []) := good_of_walk (Γ := ⟨[], syG, [], [], []⟩) (ρ := zpE [] [] [] []) sym rput8_w rfl (fun _ _ _ _ => ok_nil) (fun v l hc hty => rput8_h v l hc hty)
def rtk8_tree : Tree :=
 (.br (.bvar 0)
 (.ret (.tup (.cons (.agg (.cons (.hs .no (.cons (.int .u8) .nil) (.tup .nil)) (.cons (.bool (.tt true)) .nil))) (.cons (.int .u64 (.lit 0)) .nil))))
 (.br (lt_ (.ofI (.vop (.len 1) (.cons o0_ .nil))) (.lit 8))
 (.ret (.tup (.cons (.agg (.cons (.hs .no (.cons (.int .u8) .nil) (.tup .nil)) (.cons (.bool (.tt true)) .nil))) (.cons (.int .u64 (.lit 0)) .nil))))
 (.need (lt_ (.lit 7) (.ofI (.vop (.len 1) (.cons o0_ .nil))))
 (.need (lt_ (.lit 6) (.ofI (.vop (.len 1) (.cons o0_ .nil))))
 (.need (lt_ (.lit 5) (.ofI (.vop (.len 1) (.cons o0_ .nil))))
 (.need (lt_ (.lit 4) (.ofI (.vop (.len 1) (.cons o0_ .nil))))
 (.need (lt_ (.lit 3) (.ofI (.vop (.len 1) (.cons o0_ .nil))))
 (.need (lt_ (.lit 2) (.ofI (.vop (.len 1) (.cons o0_ .nil))))
 (.need (lt_ (.lit 1) (.ofI (.vop (.len 1) (.cons o0_ .nil))))
 (.need (lt_ (.lit 0) (.ofI (.vop (.len 1) (.cons o0_ .nil))))
 (.need (le_ (.lit 8) (.ofI (.vop (.len 1) (.cons o0_ .nil))))
 (.ret (.tup (.cons (.agg (.cons (.hs .no (.cons (.int .u8) .nil) (.vop (.sub 1) (.cons o0_ (.cons (.int .i64 (.lit 8)) (.cons (.int .i64 (.ofI (.vop (.len 1) (.cons o0_ .nil)))) .nil))))) (.cons (.bool (.tt false)) .nil))) (.cons (.int .u64 (.wrap .u64 (ad_ (.wrap .u64 (ml_ (.lit 256) (.wrap .u64 (ad_ (.wrap .u64 (ml_ (.lit 256) (.wrap .u64 (ad_ (.wrap .u64 (ml_ (.lit 256) (.wrap .u64 (ad_ (.wrap .u64 (ml_ (.lit 256) (.wrap .u64 (ad_ (.wrap .u64 (ml_ (.lit 256) (.wrap .u64 (ad_ (.wrap .u64 (ml_ (.lit 256) (.wrap .u64 (ad_ (.wrap .u64 (ml_ (.lit 256) (.wrap .u64 (ad_ (.lit 0) (.wrap .u64 (.ofI (.vop (.sel 1 0) (.cons o0_ (.cons (.int .i64 (.lit 7)) .nil))))))))) (.wrap .u64 (.ofI (.vop (.sel 1 0) (.cons o0_ (.cons (.int .i64 (.lit 6)) .nil))))))))) (.wrap .u64 (.ofI (.vop (.sel 1 0) (.cons o0_ (.cons (.int .i64 (.lit 5)) .nil))))))))) (.wrap .u64 (.ofI (.vop (.sel 1 0) (.cons o0_ (.cons (.int .i64 (.lit 4)) .nil))))))))) (.wrap .u64 (.ofI (.vop (.sel 1 0) (.cons o0_ (.cons (.int .i64 (.lit 3)) .nil))))))))) (.wrap .u64 (.ofI (.vop (.sel 1 0) (.cons o0_ (.cons (.int .i64 (.lit 2)) .nil))))))))) (.wrap .u64 (.ofI (.vop (.sel 1 0) (.cons o0_ (.cons (.int .i64 (.lit 1)) .nil))))))))) (.wrap .u64 (.ofI (.vop (.sel 1 0) (.cons o0_ (.cons (.int .i64 (.lit 0)) .nil)))))))) .nil)))))))))))))))
abbrev zpc_rtk8 : Con := ⟨30, [(.agg (.cons (.hs .no (.cons (.int .u8) .nil) o0_) (.cons (.bool (.bvar 0)) .nil))), (.int .i64 (.lit 8))], (an_ (.bapp 0 (.cons o0_ .nil)) (.not (.bvar 0))), (.tup (.cons (.agg (.cons (.hs .no (.cons (.int .u8) .nil) (.vapp 0 (.cons o0_ (.cons (.int .i64 (.lit 8)) .nil)))) (.cons (.bool (.bapp 1 (.cons o0_ (.cons (.bool (.bvar 0)) (.cons (.int .i64 (.lit 8)) .nil))))) .nil))) (.cons (.int .u64 (.iapp 0 (.cons o0_ (.cons (.int .i64 (.lit 8)) .nil)))) .nil))), ⟨0, 1, 1, 0⟩, none⟩
theorem rtk8_w : walk Tryz.prog 81 ⟨[], syG, [], [], []⟩ [] (.tup (.cons (.agg (.cons (.s (.cons (.int .u8) .nil)) (.cons .v .nil))) (.cons .v .nil))) zpc_rtk8 zpc_rtk8.n 3000 = some rtk8_tree := by kernel_rfl
theorem rtk8_h (s : Bool) (l : Value) (hc : holds (zpE [] [s] [l] []) (an_ (.bapp 0 (.cons o0_ .nil)) (.not (.bvar 0)))) (hty : patsTyp (zpE [] [s] [l] []) [(.agg (.cons (.hs .no (.cons (.int .u8) .nil) o0_) (.cons (.bool (.bvar 0)) .nil))), (.int .i64 (.lit 8))]) : rtk8_tree.holds (fun v_ => v_ = denV (zpE [] [s] [l] []) b0 (.tup (.cons (.agg (.cons (.hs .no (.cons (.int .u8) .nil) (.vapp 0 (.cons o0_ (.cons (.int .i64 (.lit 8)) .nil)))) (.cons (.bool (.bapp 1 (.cons o0_ (.cons (.bool (.bvar 0)) (.cons (.int .i64 (.lit 8)) .nil))))) .nil))) (.cons (.int .u64 (.iapp 0 (.cons o0_ (.cons (.int .i64 (.lit 8)) .nil)))) .nil)))) (zpE [] [s] [l] []) := by
  simp only [Tree.holds, Sy.holds, AllN, Env.more, zpE, List.cons_append, List.nil_append, List.append_nil, denV, denI, denB, denL, I2.den, VOp.den, List.getD_cons_zero, List.getD_cons_succ, Cst.den, syso, syse, syio, sybo, zpb_okr, List.map_nil, List.map_cons, B2.ofInts, B2.denI, B2.denB, if_true, Bool.false_eq_true, if_false, Nat.div_one, Nat.mul_one, Nat.add_zero, holds] at hc
  simp only [patsTyp, patTyp, patTypL, zpE, denV, denL, List.getD_cons_zero, List.getD_cons_succ, and_true, true_and] at hty
  have hL_l : typ (.sl (.cons (.int .u8) .nil)) l := by first | exact hty | exact hty.1 | exact hty.2 | exact hty.1.1 | exact hty.1.2 | exact hty.2.1 | exact hty.2.2 | exact hty.2.2.1 | exact hty.2.2.2
  have hN_l := typ_len (n := 1) hL_l rfl (by omega)
  simp only [Nat.div_one, Nat.mul_one] at hN_l
  unfold rtk8_tree
  simp only [Tree.holds, Sy.holds, AllN, Env.more, zpE, List.cons_append, List.nil_append, List.append_nil, denV, denI, denB, denL, I2.den, VOp.den, List.getD_cons_zero, List.getD_cons_succ, Cst.den, syso, syse, syio, sybo, zpi_rn, zpb_rs, zpv_rl, List.map_nil, List.map_cons, B2.ofInts, B2.denI, B2.denB, if_true, Bool.false_eq_true, if_false, Nat.div_one, Nat.mul_one, Nat.add_zero]
  have hl := byL_len (Sy.rows l)
  have hB := isB_typ hty hc.1
  refine ⟨fun h0 => ?_, fun h0 => ?_⟩
  ·
   first
   | (exfalso; exact hc.2 h0)
   | (
      simp only [t8, t1, getL, getS, getV, if_neg (show ¬ 8 ≤ (byL (Sy.rows l)).length by omega)]
      rfl)
   | (
      have hs : s = false := by cases s; rfl; exact absurd rfl hc.2
      have e1 := getL_map hB (k := 8) (by omega)
      have e3 := take8_val hB (by omega)
      have b0 := gB_rng hB (j := 0) (by omega)
      have g0 : Go.RowKit.intOf ((Sy.rows l).getD (Int.toNat 0) Go.undef) = gB (Sy.rows l) 0 := rfl
      have u0 : IntKind.wrap .u64 (gB (Sy.rows l) 0) = gB (Sy.rows l) 0 := by rw [wrap_u64]; omega
      have b1 := gB_rng hB (j := 1) (by omega)
      have g1 : Go.RowKit.intOf ((Sy.rows l).getD (Int.toNat 1) Go.undef) = gB (Sy.rows l) 1 := rfl
      have u1 : IntKind.wrap .u64 (gB (Sy.rows l) 1) = gB (Sy.rows l) 1 := by rw [wrap_u64]; omega
      have b2 := gB_rng hB (j := 2) (by omega)
      have g2 : Go.RowKit.intOf ((Sy.rows l).getD (Int.toNat 2) Go.undef) = gB (Sy.rows l) 2 := rfl
      have u2 : IntKind.wrap .u64 (gB (Sy.rows l) 2) = gB (Sy.rows l) 2 := by rw [wrap_u64]; omega
      have b3 := gB_rng hB (j := 3) (by omega)
      have g3 : Go.RowKit.intOf ((Sy.rows l).getD (Int.toNat 3) Go.undef) = gB (Sy.rows l) 3 := rfl
      have u3 : IntKind.wrap .u64 (gB (Sy.rows l) 3) = gB (Sy.rows l) 3 := by rw [wrap_u64]; omega
      have b4 := gB_rng hB (j := 4) (by omega)
      have g4 : Go.RowKit.intOf ((Sy.rows l).getD (Int.toNat 4) Go.undef) = gB (Sy.rows l) 4 := rfl
      have u4 : IntKind.wrap .u64 (gB (Sy.rows l) 4) = gB (Sy.rows l) 4 := by rw [wrap_u64]; omega
      have b5 := gB_rng hB (j := 5) (by omega)
      have g5 : Go.RowKit.intOf ((Sy.rows l).getD (Int.toNat 5) Go.undef) = gB (Sy.rows l) 5 := rfl
      have u5 : IntKind.wrap .u64 (gB (Sy.rows l) 5) = gB (Sy.rows l) 5 := by rw [wrap_u64]; omega
      have b6 := gB_rng hB (j := 6) (by omega)
      have g6 : Go.RowKit.intOf ((Sy.rows l).getD (Int.toNat 6) Go.undef) = gB (Sy.rows l) 6 := rfl
      have u6 : IntKind.wrap .u64 (gB (Sy.rows l) 6) = gB (Sy.rows l) 6 := by rw [wrap_u64]; omega
      have b7 := gB_rng hB (j := 7) (by omega)
      have g7 : Go.RowKit.intOf ((Sy.rows l).getD (Int.toNat 7) Go.undef) = gB (Sy.rows l) 7 := rfl
      have u7 : IntKind.wrap .u64 (gB (Sy.rows l) 7) = gB (Sy.rows l) 7 := by rw [wrap_u64]; omega
      simp only [g0, g1, g2, g3, g4, g5, g6, g7, u0, u1, u2, u3, u4, u5, u6, u7, t8, Int.toNat_natCast, List.take_length]
      rw [e1, e3, hs]
      have eS : getS (byL (Sy.rows l)) false 8 = false := by unfold getS; rw [if_pos (by omega)]
      rw [eS]
      obtain ⟨y7, hy7⟩ : ∃ y, y = gB (Sy.rows l) 7 := ⟨_, rfl⟩
      have r7 : 0 ≤ y7 ∧ y7 ≤ 255 := by omega
      have c7 : IntKind.wrap .u64 (0 + gB (Sy.rows l) 7) = y7 := by rw [wrap_u64]; omega
      simp only [c7]
      obtain ⟨y6, hy6⟩ : ∃ y, y = 256 * y7 + gB (Sy.rows l) 6 := ⟨_, rfl⟩
      have r6 : 0 ≤ y6 ∧ y6 ≤ 65535 := by omega
      have c6 : IntKind.wrap .u64 (IntKind.wrap .u64 (256 * y7) + gB (Sy.rows l) 6) = y6 := by rw [wrap_u64, wrap_u64]; omega
      simp only [c6]
      obtain ⟨y5, hy5⟩ : ∃ y, y = 256 * y6 + gB (Sy.rows l) 5 := ⟨_, rfl⟩
      have r5 : 0 ≤ y5 ∧ y5 ≤ 16777215 := by omega
      have c5 : IntKind.wrap .u64 (IntKind.wrap .u64 (256 * y6) + gB (Sy.rows l) 5) = y5 := by rw [wrap_u64, wrap_u64]; omega
      simp only [c5]
      obtain ⟨y4, hy4⟩ : ∃ y, y = 256 * y5 + gB (Sy.rows l) 4 := ⟨_, rfl⟩
      have r4 : 0 ≤ y4 ∧ y4 ≤ 4294967295 := by omega
      have c4 : IntKind.wrap .u64 (IntKind.wrap .u64 (256 * y5) + gB (Sy.rows l) 4) = y4 := by rw [wrap_u64, wrap_u64]; omega
      simp only [c4]
      obtain ⟨y3, hy3⟩ : ∃ y, y = 256 * y4 + gB (Sy.rows l) 3 := ⟨_, rfl⟩
      have r3 : 0 ≤ y3 ∧ y3 ≤ 1099511627775 := by omega
      have c3 : IntKind.wrap .u64 (IntKind.wrap .u64 (256 * y4) + gB (Sy.rows l) 3) = y3 := by rw [wrap_u64, wrap_u64]; omega
      simp only [c3]
      obtain ⟨y2, hy2⟩ : ∃ y, y = 256 * y3 + gB (Sy.rows l) 2 := ⟨_, rfl⟩
      have r2 : 0 ≤ y2 ∧ y2 ≤ 281474976710655 := by omega
      have c2 : IntKind.wrap .u64 (IntKind.wrap .u64 (256 * y3) + gB (Sy.rows l) 2) = y2 := by rw [wrap_u64, wrap_u64]; omega
      simp only [c2]
      obtain ⟨y1, hy1⟩ : ∃ y, y = 256 * y2 + gB (Sy.rows l) 1 := ⟨_, rfl⟩
      have r1 : 0 ≤ y1 ∧ y1 ≤ 72057594037927935 := by omega
      have c1 : IntKind.wrap .u64 (IntKind.wrap .u64 (256 * y2) + gB (Sy.rows l) 1) = y1 := by rw [wrap_u64, wrap_u64]; omega
      simp only [c1]
      obtain ⟨y0, hy0⟩ : ∃ y, y = 256 * y1 + gB (Sy.rows l) 0 := ⟨_, rfl⟩
      have r0 : 0 ≤ y0 ∧ y0 ≤ 18446744073709551615 := by omega
      have c0 : IntKind.wrap .u64 (IntKind.wrap .u64 (256 * y1) + gB (Sy.rows l) 0) = y0 := by rw [wrap_u64, wrap_u64]; omega
      simp only [c0]
      have hf : y0 = gB (Sy.rows l) 0 + 256 * (gB (Sy.rows l) 1 + 256 * (gB (Sy.rows l) 2 + 256 * (gB (Sy.rows l) 3 + 256 * (gB (Sy.rows l) 4 + 256 * (gB (Sy.rows l) 5 + 256 * (gB (Sy.rows l) 6 + 256 * (gB (Sy.rows l) 7))))))) := by omega
      rw [hf])
  ·
   refine ⟨fun h1 => ?_, fun h1 => ?_⟩
   ·
    first
    | (exfalso; exact hc.2 h0)
    | (
       simp only [t8, t1, getL, getS, getV, if_neg (show ¬ 8 ≤ (byL (Sy.rows l)).length by omega)]
       rfl)
    | (
       have hs : s = false := by cases s; rfl; exact absurd rfl hc.2
       have e1 := getL_map hB (k := 8) (by omega)
       have e3 := take8_val hB (by omega)
       have b0 := gB_rng hB (j := 0) (by omega)
       have g0 : Go.RowKit.intOf ((Sy.rows l).getD (Int.toNat 0) Go.undef) = gB (Sy.rows l) 0 := rfl
       have u0 : IntKind.wrap .u64 (gB (Sy.rows l) 0) = gB (Sy.rows l) 0 := by rw [wrap_u64]; omega
       have b1 := gB_rng hB (j := 1) (by omega)
       have g1 : Go.RowKit.intOf ((Sy.rows l).getD (Int.toNat 1) Go.undef) = gB (Sy.rows l) 1 := rfl
       have u1 : IntKind.wrap .u64 (gB (Sy.rows l) 1) = gB (Sy.rows l) 1 := by rw [wrap_u64]; omega
       have b2 := gB_rng hB (j := 2) (by omega)
       have g2 : Go.RowKit.intOf ((Sy.rows l).getD (Int.toNat 2) Go.undef) = gB (Sy.rows l) 2 := rfl
       have u2 : IntKind.wrap .u64 (gB (Sy.rows l) 2) = gB (Sy.rows l) 2 := by rw [wrap_u64]; omega
       have b3 := gB_rng hB (j := 3) (by omega)
       have g3 : Go.RowKit.intOf ((Sy.rows l).getD (Int.toNat 3) Go.undef) = gB (Sy.rows l) 3 := rfl
       have u3 : IntKind.wrap .u64 (gB (Sy.rows l) 3) = gB (Sy.rows l) 3 := by rw [wrap_u64]; omega
       have b4 := gB_rng hB (j := 4) (by omega)
       have g4 : Go.RowKit.intOf ((Sy.rows l).getD (Int.toNat 4) Go.undef) = gB (Sy.rows l) 4 := rfl
       have u4 : IntKind.wrap .u64 (gB (Sy.rows l) 4) = gB (Sy.rows l) 4 := by rw [wrap_u64]; omega
       have b5 := gB_rng hB (j := 5) (by omega)
       have g5 : Go.RowKit.intOf ((Sy.rows l).getD (Int.toNat 5) Go.undef) = gB (Sy.rows l) 5 := rfl
       have u5 : IntKind.wrap .u64 (gB (Sy.rows l) 5) = gB (Sy.rows l) 5 := by rw [wrap_u64]; omega
       have b6 := gB_rng hB (j := 6) (by omega)
       have g6 : Go.RowKit.intOf ((Sy.rows l).getD (Int.toNat 6) Go.undef) = gB (Sy.rows l) 6 := rfl
       have u6 : IntKind.wrap .u64 (gB (Sy.rows l) 6) = gB (Sy.rows l) 6 := by rw [wrap_u64]; omega
       have b7 := gB_rng hB (j := 7) (by omega)
       have g7 : Go.RowKit.intOf ((Sy.rows l).getD (Int.toNat 7) Go.undef) = gB (Sy.rows l) 7 := rfl
       have u7 : IntKind.wrap .u64 (gB (Sy.rows l) 7) = gB (Sy.rows l) 7 := by rw [wrap_u64]; omega
       simp only [g0, g1, g2, g3, g4, g5, g6, g7, u0, u1, u2, u3, u4, u5, u6, u7, t8, Int.toNat_natCast, List.take_length]
       rw [e1, e3, hs]
       have eS : getS (byL (Sy.rows l)) false 8 = false := by unfold getS; rw [if_pos (by omega)]
       rw [eS]
       obtain ⟨y7, hy7⟩ : ∃ y, y = gB (Sy.rows l) 7 := ⟨_, rfl⟩
       have r7 : 0 ≤ y7 ∧ y7 ≤ 255 := by omega
       have c7 : IntKind.wrap .u64 (0 + gB (Sy.rows l) 7) = y7 := by rw [wrap_u64]; omega
       simp only [c7]
       obtain ⟨y6, hy6⟩ : ∃ y, y = 256 * y7 + gB (Sy.rows l) 6 := ⟨_, rfl⟩
       have r6 : 0 ≤ y6 ∧ y6 ≤ 65535 := by omega
       have c6 : IntKind.wrap .u64 (IntKind.wrap .u64 (256 * y7) + gB (Sy.rows l) 6) = y6 := by rw [wrap_u64, wrap_u64]; omega
       simp only [c6]
       obtain ⟨y5, hy5⟩ : ∃ y, y = 256 * y6 + gB (Sy.rows l) 5 := ⟨_, rfl⟩
       have r5 : 0 ≤ y5 ∧ y5 ≤ 16777215 := by omega
       have c5 : IntKind.wrap .u64 (IntKind.wrap .u64 (256 * y6) + gB (Sy.rows l) 5) = y5 := by rw [wrap_u64, wrap_u64]; omega
       simp only [c5]
       obtain ⟨y4, hy4⟩ : ∃ y, y = 256 * y5 + gB (Sy.rows l) 4 := ⟨_, rfl⟩
       have r4 : 0 ≤ y4 ∧ y4 ≤ 4294967295 := by omega
       have c4 : IntKind.wrap .u64 (IntKind.wrap .u64 (256 * y5) + gB (Sy.rows l) 4) = y4 := by rw [wrap_u64, wrap_u64]; omega
       simp only [c4]
       obtain ⟨y3, hy3⟩ : ∃ y, y = 256 * y4 + gB (Sy.rows l) 3 := ⟨_, rfl⟩
       have r3 : 0 ≤ y3 ∧ y3 ≤ 1099511627775 := by omega
       have c3 : IntKind.wrap .u64 (IntKind.wrap .u64 (256 * y4) + gB (Sy.rows l) 3) = y3 := by rw [wrap_u64, wrap_u64]; omega
       simp only [c3]
       obtain ⟨y2, hy2⟩ : ∃ y, y = 256 * y3 + gB (Sy.rows l) 2 := ⟨_, rfl⟩
       have r2 : 0 ≤ y2 ∧ y2 ≤ 281474976710655 := by omega
       have c2 : IntKind.wrap .u64 (IntKind.wrap .u64 (256 * y3) + gB (Sy.rows l) 2) = y2 := by rw [wrap_u64, wrap_u64]; omega
       simp only [c2]
       obtain ⟨y1, hy1⟩ : ∃ y, y = 256 * y2 + gB (Sy.rows l) 1 := ⟨_, rfl⟩
       have r1 : 0 ≤ y1 ∧ y1 ≤ 72057594037927935 := by omega
       have c1 : IntKind.wrap .u64 (IntKind.wrap .u64 (256 * y2) + gB (Sy.rows l) 1) = y1 := by rw [wrap_u64, wrap_u64]; omega
       simp only [c1]
       obtain ⟨y0, hy0⟩ : ∃ y, y = 256 * y1 + gB (Sy.rows l) 0 := ⟨_, rfl⟩
       have r0 : 0 ≤ y0 ∧ y0 ≤ 18446744073709551615 := by omega
       have c0 : IntKind.wrap .u64 (IntKind.wrap .u64 (256 * y1) + gB (Sy.rows l) 0) = y0 := by rw [wrap_u64, wrap_u64]; omega
       simp only [c0]
       have hf : y0 = gB (Sy.rows l) 0 + 256 * (gB (Sy.rows l) 1 + 256 * (gB (Sy.rows l) 2 + 256 * (gB (Sy.rows l) 3 + 256 * (gB (Sy.rows l) 4 + 256 * (gB (Sy.rows l) 5 + 256 * (gB (Sy.rows l) 6 + 256 * (gB (Sy.rows l) 7))))))) := by omega
       rw [hf])
   ·
    refine ⟨?_, fun h2 => ?_⟩
    ·
     omega
    ·
     refine ⟨?_, fun h3 => ?_⟩
     ·
      omega
     ·
      refine ⟨?_, fun h4 => ?_⟩
      ·
       omega
      ·
       refine ⟨?_, fun h5 => ?_⟩
       ·
        omega
       ·
        refine ⟨?_, fun h6 => ?_⟩
        ·
         omega
        ·
         refine ⟨?_, fun h7 => ?_⟩
         ·
          omega
         ·
          refine ⟨?_, fun h8 => ?_⟩
          ·
           omega
          ·
           refine ⟨?_, fun h9 => ?_⟩
           ·
            omega
           ·
            refine ⟨?_, fun h10 => ?_⟩
            ·
             omega
            ·
             first
             | (exfalso; exact hc.2 h0)
             | (
                simp only [t8, t1, getL, getS, getV, if_neg (show ¬ 8 ≤ (byL (Sy.rows l)).length by omega)]
                rfl)
             | (
                have hs : s = false := by cases s; rfl; exact absurd rfl hc.2
                have e1 := getL_map hB (k := 8) (by omega)
                have e3 := take8_val hB (by omega)
                have b0 := gB_rng hB (j := 0) (by omega)
                have g0 : Go.RowKit.intOf ((Sy.rows l).getD (Int.toNat 0) Go.undef) = gB (Sy.rows l) 0 := rfl
                have u0 : IntKind.wrap .u64 (gB (Sy.rows l) 0) = gB (Sy.rows l) 0 := by rw [wrap_u64]; omega
                have b1 := gB_rng hB (j := 1) (by omega)
                have g1 : Go.RowKit.intOf ((Sy.rows l).getD (Int.toNat 1) Go.undef) = gB (Sy.rows l) 1 := rfl
                have u1 : IntKind.wrap .u64 (gB (Sy.rows l) 1) = gB (Sy.rows l) 1 := by rw [wrap_u64]; omega
                have b2 := gB_rng hB (j := 2) (by omega)
                have g2 : Go.RowKit.intOf ((Sy.rows l).getD (Int.toNat 2) Go.undef) = gB (Sy.rows l) 2 := rfl
                have u2 : IntKind.wrap .u64 (gB (Sy.rows l) 2) = gB (Sy.rows l) 2 := by rw [wrap_u64]; omega
                have b3 := gB_rng hB (j := 3) (by omega)
                have g3 : Go.RowKit.intOf ((Sy.rows l).getD (Int.toNat 3) Go.undef) = gB (Sy.rows l) 3 := rfl
                have u3 : IntKind.wrap .u64 (gB (Sy.rows l) 3) = gB (Sy.rows l) 3 := by rw [wrap_u64]; omega
                have b4 := gB_rng hB (j := 4) (by omega)
                have g4 : Go.RowKit.intOf ((Sy.rows l).getD (Int.toNat 4) Go.undef) = gB (Sy.rows l) 4 := rfl
                have u4 : IntKind.wrap .u64 (gB (Sy.rows l) 4) = gB (Sy.rows l) 4 := by rw [wrap_u64]; omega
                have b5 := gB_rng hB (j := 5) (by omega)
                have g5 : Go.RowKit.intOf ((Sy.rows l).getD (Int.toNat 5) Go.undef) = gB (Sy.rows l) 5 := rfl
                have u5 : IntKind.wrap .u64 (gB (Sy.rows l) 5) = gB (Sy.rows l) 5 := by rw [wrap_u64]; omega
                have b6 := gB_rng hB (j := 6) (by omega)
                have g6 : Go.RowKit.intOf ((Sy.rows l).getD (Int.toNat 6) Go.undef) = gB (Sy.rows l) 6 := rfl
                have u6 : IntKind.wrap .u64 (gB (Sy.rows l) 6) = gB (Sy.rows l) 6 := by rw [wrap_u64]; omega
                have b7 := gB_rng hB (j := 7) (by omega)
                have g7 : Go.RowKit.intOf ((Sy.rows l).getD (Int.toNat 7) Go.undef) = gB (Sy.rows l) 7 := rfl
                have u7 : IntKind.wrap .u64 (gB (Sy.rows l) 7) = gB (Sy.rows l) 7 := by rw [wrap_u64]; omega
                simp only [g0, g1, g2, g3, g4, g5, g6, g7, u0, u1, u2, u3, u4, u5, u6, u7, t8, Int.toNat_natCast, List.take_length]
                rw [e1, e3, hs]
                have eS : getS (byL (Sy.rows l)) false 8 = false := by unfold getS; rw [if_pos (by omega)]
                rw [eS]
                obtain ⟨y7, hy7⟩ : ∃ y, y = gB (Sy.rows l) 7 := ⟨_, rfl⟩
                have r7 : 0 ≤ y7 ∧ y7 ≤ 255 := by omega
                have c7 : IntKind.wrap .u64 (0 + gB (Sy.rows l) 7) = y7 := by rw [wrap_u64]; omega
                simp only [c7]
                obtain ⟨y6, hy6⟩ : ∃ y, y = 256 * y7 + gB (Sy.rows l) 6 := ⟨_, rfl⟩
                have r6 : 0 ≤ y6 ∧ y6 ≤ 65535 := by omega
                have c6 : IntKind.wrap .u64 (IntKind.wrap .u64 (256 * y7) + gB (Sy.rows l) 6) = y6 := by rw [wrap_u64, wrap_u64]; omega
                simp only [c6]
                obtain ⟨y5, hy5⟩ : ∃ y, y = 256 * y6 + gB (Sy.rows l) 5 := ⟨_, rfl⟩
                have r5 : 0 ≤ y5 ∧ y5 ≤ 16777215 := by omega
                have c5 : IntKind.wrap .u64 (IntKind.wrap .u64 (256 * y6) + gB (Sy.rows l) 5) = y5 := by rw [wrap_u64, wrap_u64]; omega
                simp only [c5]
                obtain ⟨y4, hy4⟩ : ∃ y, y = 256 * y5 + gB (Sy.rows l) 4 := ⟨_, rfl⟩
                have r4 : 0 ≤ y4 ∧ y4 ≤ 4294967295 := by omega
                have c4 : IntKind.wrap .u64 (IntKind.wrap .u64 (256 * y5) + gB (Sy.rows l) 4) = y4 := by rw [wrap_u64, wrap_u64]; omega
                simp only [c4]
                obtain ⟨y3, hy3⟩ : ∃ y, y = 256 * y4 + gB (Sy.rows l) 3 := ⟨_, rfl⟩
                have r3 : 0 ≤ y3 ∧ y3 ≤ 1099511627775 := by omega
                have c3 : IntKind.wrap .u64 (IntKind.wrap .u64 (256 * y4) + gB (Sy.rows l) 3) = y3 := by rw [wrap_u64, wrap_u64]; omega
                simp only [c3]
                obtain ⟨y2, hy2⟩ : ∃ y, y = 256 * y3 + gB (Sy.rows l) 2 := ⟨_, rfl⟩
                have r2 : 0 ≤ y2 ∧ y2 ≤ 281474976710655 := by omega
                have c2 : IntKind.wrap .u64 (IntKind.wrap .u64 (256 * y3) + gB (Sy.rows l) 2) = y2 := by rw [wrap_u64, wrap_u64]; omega
                simp only [c2]
                obtain ⟨y1, hy1⟩ : ∃ y, y = 256 * y2 + gB (Sy.rows l) 1 := ⟨_, rfl⟩
                have r1 : 0 ≤ y1 ∧ y1 ≤ 72057594037927935 := by omega
                have c1 : IntKind.wrap .u64 (IntKind.wrap .u64 (256 * y2) + gB (Sy.rows l) 1) = y1 := by rw [wrap_u64, wrap_u64]; omega
                simp only [c1]
                obtain ⟨y0, hy0⟩ : ∃ y, y = 256 * y1 + gB (Sy.rows l) 0 := ⟨_, rfl⟩
                have r0 : 0 ≤ y0 ∧ y0 ≤ 18446744073709551615 := by omega
                have c0 : IntKind.wrap .u64 (IntKind.wrap .u64 (256 * y1) + gB (Sy.rows l) 0) = y0 := by rw [wrap_u64, wrap_u64]; omega
                simp only [c0]
                have hf : y0 = gB (Sy.rows l) 0 + 256 * (gB (Sy.rows l) 1 + 256 * (gB (Sy.rows l) 2 + 256 * (gB (Sy.rows l) 3 + 256 * (gB (Sy.rows l) 4 + 256 * (gB (Sy.rows l) 5 + 256 * (gB (Sy.rows l) 6 + 256 * (gB (Sy.rows l) 7))))))) := by omega
                rw [hf])
theorem zpg_rtk8 : zpc_rtk8.Good Tryz.prog syG (zpE [] [] [] []) := good_of_walk (Γ := ⟨[], syG, [], [], []⟩) (ρ := zpE [] [] [] []) sym rtk8_w rfl (fun _ _ _ _ => ok_nil) (fun s l hc hty => rtk8_h s l hc hty)
end Go.Proofs.YtbgmbbkmadkhgaaGreatDoor
