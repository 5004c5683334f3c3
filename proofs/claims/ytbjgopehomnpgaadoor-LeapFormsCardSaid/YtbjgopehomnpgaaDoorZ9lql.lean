/-
  Layer 9: tables as blobs.
-/
import Derived.Test.YtbjgopehomnpgaaDoorSycql
import Derived.Test.YtbjgopehomnpgaaDoorZ9fql
import Derived.Test.YtbjgopehomnpgaaDoorNumql
import Derived.Test.YtbjgopehomnpgaaDoorN09lql
namespace Go.Proofs.YtbjgopehomnpgaaDoor
open Go.RowKit Go.Extern.Stop Go.Stop Go.Extern Go.Proofs.YtbjgopehomnpgaaDoor.Sy
set_option linter.unusedVariables false
set_option linter.unusedSimpArgs false
noncomputable def eqV (a b : Value) : Bool := @decide (a = b) (Classical.propDecidable _)
theorem eqV_iff {a b : Value} : eqV a b = true ↔ a = b := @decide_eq_true_iff _ (Classical.propDecidable _)
def lkE (b t : Int) (l : List Int) : Int := if mayL b t l = true then 0 else 1
def lkV (b t : Int) (l : List Int) : Value := if mayL b t l = true then slV (encB b t l l.length) 5 else .tuple #[]
theorem lk_spec (b t : Int) (l : List Int) : (lkE b t l = 0 ∧ mayL b t l = true ∧ mayI b t l = 0 ∧ lkV b t l = slV (encB b t l l.length) 5 ∧ l.length ≤ 32) ∨ (lkE b t l = 1 ∧ mayL b t l = false ∧ mayI b t l = 1 ∧ lkV b t l = .tuple #[]) := by
  rcases mayI_spec b t l with ⟨x, y⟩ | ⟨x, y, _, _, _, _, z⟩
  · right; unfold lkE lkV; rw [y]; exact ⟨rfl, rfl, x, rfl⟩
  · left; unfold lkE lkV; rw [y]; exact ⟨rfl, rfl, x, rfl, z⟩
theorem may_at {b t : Int} {l : List Int} (h : mayL b t l = true) {i : Nat} (hi : i < l.length) : -50000 ≤ l.getD i 0 ∧ l.getD i 0 < 50000 := by
  have hm := mayL_spec h
  simp only [mayL, Bool.and_eq_true] at h
  have := okL_ge h.2 i hi
  omega
theorem rows_nil : Sy.rows (Value.tuple #[]) = [] := rfl
theorem rows_arr (l : List Value) : Sy.rows (Value.tuple l.toArray) = l := rfl
theorem put_rows (l : List Value) (v : Int) (n : Nat) : Sy.rows (putV l v n) = l ++ numB v n := rfl
theorem enc0 (b t : Int) (L : List Int) {n : Nat} (h : L.length = n) : Value.tuple (Sy.rows (putV (Sy.rows (putV (Sy.rows (Value.tuple #[])) b 8)) t 8) ++ Sy.rows (Value.tuple #[Value.int .u8 (IntKind.u8.wrap (n : Int))])).toArray = Value.tuple (encB b t L (Int.toNat 0)).toArray := by
  subst h
  refine tup_congr ?_
  rw [put_rows, put_rows, rows_nil]
  unfold encB
  rw [List.nil_append, List.append_assoc]
  rfl
theorem encS {b t d : Int} {L : List Int} {j : Nat} (h : L[j]? = some d) : putV (Sy.rows (Value.tuple (encB b t L j).toArray)) d 8 = Value.tuple (encB b t L (j + 1)).toArray := by
  rw [encB_succ h]
  rfl
theorem put_u64 {v : Int} (l : List Value) (h0 : -9223372036854775808 ≤ v) (h1 : v ≤ 9223372036854775807) : putV l (IntKind.wrap .u64 v) 8 = putV l v 8 := by
  unfold putV
  rw [numB_u64 h0 h1]
theorem renc0 (b t : Int) (L : List Int) {n : Nat} (h : L.length = n) (hn : n ≤ 32) : putV (Sy.rows (putV (Sy.rows (putV (Sy.rows (Value.tuple #[])) b 8)) t 8)) (IntKind.wrap .u64 (n : Int)) 1 = Value.tuple (encB b t L (Int.toNat 0)).toArray := by
  rw [← enc0 b t L h, wrap_u64, show (n : Int) % 18446744073709551616 = n by omega]
  rfl
def bx (l : List Value) : List UInt8 := byL (Sy.rows (blV l 5))
def dTab (X : List UInt8) : Bool := decide (X.length = 17 + 8 * hdN X) && mayL (hdBs X) (hdT X) (numsX X (hdN X))
def dcE (l : List Value) : Int := if blE l 5 ≠ 0 then blE l 5 else if dTab (bx l) = true then 0 else 3
def dcB (l : List Value) : Int := if dcE l = 0 then hdBs (bx l) else 0
def dcT (l : List Value) : Int := if dcE l = 0 then hdT (bx l) else 0
def dcL (l : List Value) : Value := if dcE l = 0 then rowsI (numsX (bx l) (hdN (bx l))) else .tuple #[]
noncomputable def dstB (x y : Value) (s : Bool) (l : List Value) (j : Nat) : Bool := @decide (x = rowsI (numsX (bx l) j) ∧ y = .tuple ((rest (bx l) j).1.map bV).toArray ∧ s = (rest (bx l) j).2) (Classical.propDecidable _)
theorem dst_iff {x y : Value} {s : Bool} {l : List Value} {j : Nat} : dstB x y s l j = true ↔ x = rowsI (numsX (bx l) j) ∧ y = .tuple ((rest (bx l) j).1.map bV).toArray ∧ s = (rest (bx l) j).2 := @decide_eq_true_iff _ (Classical.propDecidable _)
theorem blV_isB {l : List Value} (h : isB l) (k : Int) : isB (Sy.rows (blV l k)) := by
  unfold blV
  split
  · exact isB.drop (isB.take h _) _
  · exact isB.nil
theorem dTab_iff (X : List UInt8) : dTab X = true ↔ X.length = 17 + 8 * hdN X ∧ mayI (hdBs X) (hdT X) (numsX X (hdN X)) = 0 := by
  unfold dTab
  rw [Bool.and_eq_true, decide_eq_true_eq]
  rcases mayI_spec (hdBs X) (hdT X) (numsX X (hdN X)) with ⟨a, b⟩ | ⟨a, b, _⟩
  · rw [b]; simp only [Bool.false_eq_true, and_false, false_iff]; omega
  · rw [b]; simp only [and_true]; omega
theorem dc_spec (C : List Value) : (dcE C = blE C 5 ∧ blE C 5 ≠ 0 ∧ dcB C = 0 ∧ dcT C = 0 ∧ dcL C = .tuple #[]) ∨ (blE C 5 = 0 ∧ dcE C = 3 ∧ ((bx C).length ≠ 17 + 8 * hdN (bx C) ∨ mayI (hdBs (bx C)) (hdT (bx C)) (numsX (bx C) (hdN (bx C))) ≠ 0) ∧ dcB C = 0 ∧ dcT C = 0 ∧ dcL C = .tuple #[]) ∨ (blE C 5 = 0 ∧ dcE C = 0 ∧ (bx C).length = 17 + 8 * hdN (bx C) ∧ mayI (hdBs (bx C)) (hdT (bx C)) (numsX (bx C) (hdN (bx C))) = 0 ∧ dcB C = hdBs (bx C) ∧ dcT C = hdT (bx C) ∧ dcL C = rowsI (numsX (bx C) (hdN (bx C)))) := by
  have hi := dTab_iff (bx C)
  unfold dcB dcT dcL
  by_cases h1 : blE C 5 = 0
  · by_cases h2 : dTab (bx C) = true
    · have e : dcE C = 0 := by unfold dcE; rw [if_neg (by omega), if_pos h2]
      have h3 := hi.1 h2
      rw [if_pos e, if_pos e, if_pos e]
      exact .inr (.inr ⟨h1, e, h3.1, h3.2, rfl, rfl, rfl⟩)
    · have e : dcE C = 3 := by unfold dcE; rw [if_neg (by omega), if_neg h2]
      rw [if_neg (by omega), if_neg (by omega), if_neg (by omega)]
      refine .inr (.inl ⟨h1, e, ?_, rfl, rfl, rfl⟩)
      rw [hi] at h2
      omega
  · have e : dcE C = blE C 5 := by unfold dcE; rw [if_pos h1]
    rw [if_neg (by omega), if_neg (by omega), if_neg (by omega)]
    exact .inl ⟨e, h1, rfl, rfl, rfl⟩
theorem rl_eq (l : List UInt8) : byL (Sy.rows (Value.tuple (l.map bV).toArray)) = l := byL_bV l
theorem bx_def (C : List Value) : byL (Sy.rows (blV C 5)) = bx C := rfl
theorem t8 : Int.toNat 8 = 8 := rfl
theorem t1 : Int.toNat 1 = 1 := rfl
theorem hdN_def (X : List UInt8) : getV (getL (getL X 8) 8) 1 = hdN X := rfl
theorem rd_wr (l : List UInt8) : IntKind.wrap .i64 (getV l 8 : Int) = rdI l := by
  rw [rdI_wrap, IntKind.wrap_i64]
  unfold wrap64
  omega
theorem hdS {X : List UInt8} (h : 17 ≤ X.length) : getS X false 8 = false ∧ getS (getL X 8) false 8 = false := by
  have e1 : getS X false 8 = false := by unfold getS; rw [if_pos (by omega)]
  refine ⟨e1, ?_⟩
  unfold getS getL
  rw [if_pos (show 8 ≤ X.length by omega), if_pos (by simp; omega)]
theorem okR_rl (l : List UInt8) : okR (Sy.rows (Value.tuple (l.map bV).toArray)) = true := okR_isB (isB_bV _)
theorem hdN_wr (X : List UInt8) : IntKind.wrap .i64 (hdN X : Int) = hdN X := by
  have := hdN_lt X
  have := wr_i64 (hdN X : Int)
  omega
noncomputable def ylI : Nat → List Value → Int
  | 30, [l, .int _ b, .int _ t] => lkE b t (intsOf l)
  | 31, [c] => dcE (rows c)
  | 32, [c] => dcB (rows c)
  | 33, [c] => dcT (rows c)
  | i, l => yfI i l
noncomputable def ylB : Nat → List Value → Bool
  | 5, [x, y, .bool s, c, .int _ j] => dstB x y s (rows c) j.toNat
  | 6, [x, y] => eqV x y
  | 7, [.int _ b, .int _ t, l, .int _ d, .int _ u, m] => decide (b = d ∧ t = u ∧ intsOf l = intsOf m)
  | 8, [l, m, .int _ j] => decide ((intsOf l).take j.toNat = (intsOf m).take j.toNat)
  | i, l => yfB i l
noncomputable def ylV : Nat → List Value → Value
  | 9, [l, .int _ b, .int _ t, .int _ n] => .tuple (encB b t (intsOf l) n.toNat).toArray
  | 10, [l, .int _ b, .int _ t] => lkV b t (intsOf l)
  | 11, [c] => dcL (rows c)
  | i, l => yfV i l
noncomputable abbrev ylE (iv : List Int) (bv : List Bool) (vv : List Value) (sv : List ByteArray) : Env := { iv := iv, bv := bv, vv := vv, sv := sv, fi := ylI, fb := ylB, fv := ylV, et := 182 }
set_option maxHeartbeats 8000000 in
theorem ylup : Agree 30 5 9 (yfE [] [] [] []) (ylE [] [] [] []) := ⟨rfl, (by
    intro f hf
    funext l
    show ylI f l = yfI f l
    unfold ylI
    split <;> first | rfl | omega), (by
    intro f hf
    funext l
    show ylB f l = yfB f l
    unfold ylB
    split <;> first | rfl | omega), (by
    intro f hf
    funext l
    show ylV f l = yfV f l
    unfold ylV
    split <;> first | rfl | omega)⟩
theorem yli_rn (l : Value) (k1 : IntKind) (k : Int) : ylI 0 [l, .int k1 k] = ((getV (byL (rows l)) k.toNat : Nat) : Int) := rfl
theorem yli_ri (l : Value) : ylI 1 [l] = rdI (byL (rows l)) := rfl
theorem yli_dn (l : Value) (s : Bool) : ylI 2 [l, .bool s] = dnE (byL (rows l)) s := rfl
theorem yli_sle (l : Value) (k1 : IntKind) (k : Int) : ylI 5 [l, .int k1 k] = slE (rows l) k := rfl
theorem yli_ble (l : Value) (k1 : IntKind) (k : Int) : ylI 9 [l, .int k1 k] = blE (rows l) k := rfl
theorem yli_may (k1 : IntKind) (b : Int) (k2 : IntKind) (t : Int) (l : Value) : ylI 10 [.int k1 b, .int k2 t, l] = mayI b t (intsOf l) := rfl
theorem yli_lke (l : Value) (k1 : IntKind) (b : Int) (k2 : IntKind) (t : Int) : ylI 30 [l, .int k1 b, .int k2 t] = lkE b t (intsOf l) := rfl
theorem yli_dce (c : Value) : ylI 31 [c] = dcE (rows c) := rfl
theorem yli_dcb (c : Value) : ylI 32 [c] = dcB (rows c) := rfl
theorem yli_dct (c : Value) : ylI 33 [c] = dcT (rows c) := rfl
theorem ylb_okr (l : Value) : ylB 0 [l] = okR (rows l) := rfl
theorem ylb_rs (l : Value) (s : Bool) (k1 : IntKind) (k : Int) : ylB 1 [l, .bool s, .int k1 k] = getS (byL (rows l)) s k.toNat := rfl
theorem ylb_dst (x : Value) (y : Value) (s : Bool) (c : Value) (k1 : IntKind) (j : Int) : ylB 5 [x, y, .bool s, c, .int k1 j] = dstB x y s (rows c) j.toNat := rfl
theorem ylb_eqv (x : Value) (y : Value) : ylB 6 [x, y] = eqV x y := rfl
theorem ylb_ist (k1 : IntKind) (b : Int) (k2 : IntKind) (t : Int) (l : Value) (k3 : IntKind) (d : Int) (k4 : IntKind) (u : Int) (m : Value) : ylB 7 [.int k1 b, .int k2 t, l, .int k3 d, .int k4 u, m] = decide (b = d ∧ t = u ∧ intsOf l = intsOf m) := rfl
theorem ylb_pfx (l : Value) (m : Value) (k1 : IntKind) (j : Int) : ylB 8 [l, m, .int k1 j] = decide ((intsOf l).take j.toNat = (intsOf m).take j.toNat) := rfl
theorem ylv_rl (l : Value) (k1 : IntKind) (k : Int) : ylV 0 [l, .int k1 k] = Value.tuple ((getL (byL (rows l)) k.toNat).map bV).toArray := rfl
theorem ylv_p1 (l : Value) (k1 : IntKind) (v : Int) : ylV 3 [l, .int k1 v] = putV (rows l) v 1 := rfl
theorem ylv_p8 (l : Value) (k1 : IntKind) (v : Int) : ylV 6 [l, .int k1 v] = putV (rows l) v 8 := rfl
theorem ylv_slv (l : Value) (k1 : IntKind) (k : Int) : ylV 7 [l, .int k1 k] = slV (rows l) k := rfl
theorem ylv_blv (l : Value) (k1 : IntKind) (k : Int) : ylV 8 [l, .int k1 k] = blV (rows l) k := rfl
theorem ylv_lpa (l : Value) (k1 : IntKind) (b : Int) (k2 : IntKind) (t : Int) (k3 : IntKind) (n : Int) : ylV 9 [l, .int k1 b, .int k2 t, .int k3 n] = .tuple (encB b t (intsOf l) n.toNat).toArray := rfl
theorem ylv_lkv (l : Value) (k1 : IntKind) (b : Int) (k2 : IntKind) (t : Int) : ylV 10 [l, .int k1 b, .int k2 t] = lkV b t (intsOf l) := rfl
theorem ylv_dcl (c : Value) : ylV 11 [c] = dcL (rows c) := rfl
def i64p_tree : Tree :=
 (.need (an_ (le_ (.ofI (.vop (.len 1) (.cons o0_ .nil))) (.lit 140737488355000)) (an_ (le_ (.lit 0) (.wrap .u64 v0_)) (le_ (.wrap .u64 v0_) (.lit 18446744073709551615))))
 (.ret (.hs (.new 5) (.cons (.int .u8) .nil) (.vapp 6 (.cons o0_ (.cons (.int .i64 (.wrap .u64 v0_)) .nil))))))
abbrev ylc_i64p : Con := ⟨135, [(.hs .no (.cons (.int .u8) .nil) o0_), z0_], (an_ (le_ (.ofI (.vop (.len 1) (.cons o0_ .nil))) (.lit 70368744177664)) (an_ (le_ lm_ v0_) (le_ v0_ lM_))), (.hs (.new 5) (.cons (.int .u8) .nil) (.vapp 6 (.cons o0_ (.cons z0_ .nil)))), ⟨1, 0, 1, 0⟩, none⟩
theorem i64p_w : walk Tryd.prog 182 ⟨[z6c_num8], syG, [], [], []⟩ [] (.o 5 (.cons (.int .u8) .nil)) ylc_i64p ylc_i64p.n 3000 = some i64p_tree := by kernel_rfl
theorem i64p_h (v : Int) (l : Value) (hc : holds (ylE [v] [] [l] []) (an_ (le_ (.ofI (.vop (.len 1) (.cons o0_ .nil))) (.lit 70368744177664)) (an_ (le_ lm_ v0_) (le_ v0_ lM_)))) (hty : patsTyp (ylE [v] [] [l] []) [(.hs .no (.cons (.int .u8) .nil) o0_), z0_]) : i64p_tree.holds (fun v_ => v_ = denV (ylE [v] [] [l] []) b0 (.hs (.new 5) (.cons (.int .u8) .nil) (.vapp 6 (.cons o0_ (.cons z0_ .nil))))) (ylE [v] [] [l] []) := by
  simp only [Tree.holds, Sy.holds, AllN, Env.more, ylE, List.cons_append, List.nil_append, List.append_nil, denV, denI, denB, denL, I2.den, VOp.den, List.getD_cons_zero, List.getD_cons_succ, Cst.den, syso, syse, syio, sybo, List.map_nil, List.map_cons, B2.ofInts, B2.denI, B2.denB, if_true, Bool.false_eq_true, if_false, Nat.div_one, Nat.mul_one, Nat.add_zero, holds] at hc
  simp only [patsTyp, patTyp, patTypL, ylE, denV, denL, List.getD_cons_zero, List.getD_cons_succ, and_true, true_and] at hty
  have hL_l : typ (.sl (.cons (.int .u8) .nil)) l := by first | exact hty | exact hty.1 | exact hty.2 | exact hty.1.1 | exact hty.1.2 | exact hty.2.1 | exact hty.2.2 | exact hty.2.2.1 | exact hty.2.2.2
  have hN_l := typ_len (n := 1) hL_l rfl (by omega)
  simp only [Nat.div_one, Nat.mul_one] at hN_l
  unfold i64p_tree
  simp only [Tree.holds, Sy.holds, AllN, Env.more, ylE, List.cons_append, List.nil_append, List.append_nil, denV, denI, denB, denL, I2.den, VOp.den, List.getD_cons_zero, List.getD_cons_succ, Cst.den, syso, syse, syio, sybo, ylv_p8, List.map_nil, List.map_cons, B2.ofInts, B2.denI, B2.denB, if_true, Bool.false_eq_true, if_false, Nat.div_one, Nat.mul_one, Nat.add_zero]
  have wf0 := wr_u64 v
  refine ⟨?_, fun h0 => ?_⟩
  ·
   first
   | omega
   | (have := wr_u64 v
      omega)
  ·
   try simp only [hw0]
   unfold putV
   rw [numB_u64 (by omega) (by omega)]
theorem ylg_i64p : ylc_i64p.Good Tryd.prog syG (ylE [] [] [] []) := good_of_walk (Γ := ⟨[z6c_num8], syG, [], [], []⟩) (ρ := ylE [] [] [] []) sym i64p_w rfl (fun _ _ _ _ => (ok_cons (Con.Good.env (Con.Good.up (Con.Good.up (Con.Good.up z6g_num8 zb6up rfl) yfup rfl) ylup rfl) _ _ _ _) ok_nil)) (fun v l hc hty => i64p_h v l hc hty)
def rput1_tree : Tree :=
 (.need (le_ (ad_ (.lit 0) (.ofI (.vop (.len 1) (.cons o0_ .nil)))) (.lit 140737488355328))
 (.need (le_ (ad_ (.ofI (.vop (.len 1) (.cons o0_ .nil))) (.lit 1)) (.lit 140737488355328))
 (.ret (.hs (.new 5) (.cons (.int .u8) .nil) (.vop .cat (.cons o0_ (.cons (.tup (.cons (.int .u8 (.wrap .u8 (.i2 .rem v0_ (.lit 256)))) .nil)) .nil)))))))
abbrev ylc_rput1 : Con := ⟨137, [(.hs .no (.cons (.int .u8) .nil) o0_), (.int .u64 v0_), (.int .i64 (.lit 1))], (an_ (le_ (.ofI (.vop (.len 1) (.cons o0_ .nil))) (.lit 70368744177664)) (an_ (le_ (.lit 0) v0_) (le_ v0_ (.lit 18446744073709551615)))), (.hs (.new 5) (.cons (.int .u8) .nil) (.vapp 3 (.cons o0_ (.cons (.int .u64 v0_) .nil)))), ⟨1, 0, 1, 0⟩, none⟩
theorem rput1_w : walk Tryd.prog 182 ⟨[], syG, [], [], []⟩ [] (.o 5 (.cons (.int .u8) .nil)) ylc_rput1 ylc_rput1.n 3000 = some rput1_tree := by kernel_rfl
theorem rput1_h (v : Int) (l : Value) (hc : holds (ylE [v] [] [l] []) (an_ (le_ (.ofI (.vop (.len 1) (.cons o0_ .nil))) (.lit 70368744177664)) (an_ (le_ (.lit 0) v0_) (le_ v0_ (.lit 18446744073709551615))))) (hty : patsTyp (ylE [v] [] [l] []) [(.hs .no (.cons (.int .u8) .nil) o0_), (.int .u64 v0_), (.int .i64 (.lit 1))]) : rput1_tree.holds (fun v_ => v_ = denV (ylE [v] [] [l] []) b0 (.hs (.new 5) (.cons (.int .u8) .nil) (.vapp 3 (.cons o0_ (.cons (.int .u64 v0_) .nil))))) (ylE [v] [] [l] []) := by
  simp only [Tree.holds, Sy.holds, AllN, Env.more, ylE, List.cons_append, List.nil_append, List.append_nil, denV, denI, denB, denL, I2.den, VOp.den, List.getD_cons_zero, List.getD_cons_succ, Cst.den, syso, syse, syio, sybo, List.map_nil, List.map_cons, B2.ofInts, B2.denI, B2.denB, if_true, Bool.false_eq_true, if_false, Nat.div_one, Nat.mul_one, Nat.add_zero, holds] at hc
  simp only [patsTyp, patTyp, patTypL, ylE, denV, denL, List.getD_cons_zero, List.getD_cons_succ, and_true, true_and] at hty
  have hL_l : typ (.sl (.cons (.int .u8) .nil)) l := by first | exact hty | exact hty.1 | exact hty.2 | exact hty.1.1 | exact hty.1.2 | exact hty.2.1 | exact hty.2.2 | exact hty.2.2.1 | exact hty.2.2.2
  have hN_l := typ_len (n := 1) hL_l rfl (by omega)
  simp only [Nat.div_one, Nat.mul_one] at hN_l
  unfold rput1_tree
  simp only [Tree.holds, Sy.holds, AllN, Env.more, ylE, List.cons_append, List.nil_append, List.append_nil, denV, denI, denB, denL, I2.den, VOp.den, List.getD_cons_zero, List.getD_cons_succ, Cst.den, syso, syse, syio, sybo, ylv_p1, List.map_nil, List.map_cons, B2.ofInts, B2.denI, B2.denB, if_true, Bool.false_eq_true, if_false, Nat.div_one, Nat.mul_one, Nat.add_zero]
  refine ⟨?_, fun h0 => ?_⟩
  ·
   first
   | omega
   | (simp only [rows_tup, List.length_append, List.length_cons, List.length_nil, List.size_toArray]
      omega)
   | exact hc.1
  ·
   refine ⟨?_, fun h1 => ?_⟩
   ·
    first
    | omega
    | (simp only [rows_tup, List.length_append, List.length_cons, List.length_nil, List.size_toArray]
       omega)
    | exact hc.1
   ·
    simp only [rows_tup, List.append_assoc, List.cons_append, List.nil_append, putV]
    simp only [wrap_u8, tm8 (show 0 ≤ v by omega), Int.emod_emod]
    refine tup_congr ?_
    simp only [numB]
theorem ylg_rput1 : ylc_rput1.Good Tryd.prog syG (ylE [] [] [] []) := good_of_walk (Γ := ⟨[], syG, [], [], []⟩) (ρ := ylE [] [] [] []) sym rput1_w rfl (fun _ _ _ _ => ok_nil) (fun v l hc hty => rput1_h v l hc hty)
def rput8_tree : Tree :=
 (.need (le_ (ad_ (.lit 0) (.ofI (.vop (.len 1) (.cons o0_ .nil)))) (.lit 140737488355328))
 (.need (le_ (ad_ (.ofI (.vop (.len 1) (.cons o0_ .nil))) (.lit 1)) (.lit 140737488355328))
 (.need (le_ (ad_ (.ofI (.vop (.len 1) (.cons (.vop .cat (.cons o0_ (.cons (.tup (.cons (.int .u8 (.wrap .u8 (.i2 .rem v0_ (.lit 256)))) .nil)) .nil))) .nil))) (.lit 1)) (.lit 140737488355328))
 (.need (le_ (ad_ (.ofI (.vop (.len 1) (.cons (.vop .cat (.cons (.vop .cat (.cons o0_ (.cons (.tup (.cons (.int .u8 (.wrap .u8 (.i2 .rem v0_ (.lit 256)))) .nil)) .nil))) (.cons (.tup (.cons (.int .u8 (.wrap .u8 (.i2 .rem (.wrap .u64 (.i2 .quo v0_ (.lit 256))) (.lit 256)))) .nil)) .nil))) .nil))) (.lit 1)) (.lit 140737488355328))
 (.need (le_ (ad_ (.ofI (.vop (.len 1) (.cons (.vop .cat (.cons (.vop .cat (.cons (.vop .cat (.cons o0_ (.cons (.tup (.cons (.int .u8 (.wrap .u8 (.i2 .rem v0_ (.lit 256)))) .nil)) .nil))) (.cons (.tup (.cons (.int .u8 (.wrap .u8 (.i2 .rem (.wrap .u64 (.i2 .quo v0_ (.lit 256))) (.lit 256)))) .nil)) .nil))) (.cons (.tup (.cons (.int .u8 (.wrap .u8 (.i2 .rem (.wrap .u64 (.i2 .quo (.wrap .u64 (.i2 .quo v0_ (.lit 256))) (.lit 256))) (.lit 256)))) .nil)) .nil))) .nil))) (.lit 1)) (.lit 140737488355328))
 (.need (le_ (ad_ (.ofI (.vop (.len 1) (.cons (.vop .cat (.cons (.vop .cat (.cons (.vop .cat (.cons (.vop .cat (.cons o0_ (.cons (.tup (.cons (.int .u8 (.wrap .u8 (.i2 .rem v0_ (.lit 256)))) .nil)) .nil))) (.cons (.tup (.cons (.int .u8 (.wrap .u8 (.i2 .rem (.wrap .u64 (.i2 .quo v0_ (.lit 256))) (.lit 256)))) .nil)) .nil))) (.cons (.tup (.cons (.int .u8 (.wrap .u8 (.i2 .rem (.wrap .u64 (.i2 .quo (.wrap .u64 (.i2 .quo v0_ (.lit 256))) (.lit 256))) (.lit 256)))) .nil)) .nil))) (.cons (.tup (.cons (.int .u8 (.wrap .u8 (.i2 .rem (.wrap .u64 (.i2 .quo (.wrap .u64 (.i2 .quo (.wrap .u64 (.i2 .quo v0_ (.lit 256))) (.lit 256))) (.lit 256))) (.lit 256)))) .nil)) .nil))) .nil))) (.lit 1)) (.lit 140737488355328))
 (.need (le_ (ad_ (.ofI (.vop (.len 1) (.cons (.vop .cat (.cons (.vop .cat (.cons (.vop .cat (.cons (.vop .cat (.cons (.vop .cat (.cons o0_ (.cons (.tup (.cons (.int .u8 (.wrap .u8 (.i2 .rem v0_ (.lit 256)))) .nil)) .nil))) (.cons (.tup (.cons (.int .u8 (.wrap .u8 (.i2 .rem (.wrap .u64 (.i2 .quo v0_ (.lit 256))) (.lit 256)))) .nil)) .nil))) (.cons (.tup (.cons (.int .u8 (.wrap .u8 (.i2 .rem (.wrap .u64 (.i2 .quo (.wrap .u64 (.i2 .quo v0_ (.lit 256))) (.lit 256))) (.lit 256)))) .nil)) .nil))) (.cons (.tup (.cons (.int .u8 (.wrap .u8 (.i2 .rem (.wrap .u64 (.i2 .quo (.wrap .u64 (.i2 .quo (.wrap .u64 (.i2 .quo v0_ (.lit 256))) (.lit 256))) (.lit 256))) (.lit 256)))) .nil)) .nil))) (.cons (.tup (.cons (.int .u8 (.wrap .u8 (.i2 .rem (.wrap .u64 (.i2 .quo (.wrap .u64 (.i2 .quo (.wrap .u64 (.i2 .quo (.wrap .u64 (.i2 .quo v0_ (.lit 256))) (.lit 256))) (.lit 256))) (.lit 256))) (.lit 256)))) .nil)) .nil))) .nil))) (.lit 1)) (.lit 140737488355328))
 (.need (le_ (ad_ (.ofI (.vop (.len 1) (.cons (.vop .cat (.cons (.vop .cat (.cons (.vop .cat (.cons (.vop .cat (.cons (.vop .cat (.cons (.vop .cat (.cons o0_ (.cons (.tup (.cons (.int .u8 (.wrap .u8 (.i2 .rem v0_ (.lit 256)))) .nil)) .nil))) (.cons (.tup (.cons (.int .u8 (.wrap .u8 (.i2 .rem (.wrap .u64 (.i2 .quo v0_ (.lit 256))) (.lit 256)))) .nil)) .nil))) (.cons (.tup (.cons (.int .u8 (.wrap .u8 (.i2 .rem (.wrap .u64 (.i2 .quo (.wrap .u64 (.i2 .quo v0_ (.lit 256))) (.lit 256))) (.lit 256)))) .nil)) .nil))) (.cons (.tup (.cons (.int .u8 (.wrap .u8 (.i2 .rem (.wrap .u64 (.i2 .quo (.wrap .u64 (.i2 .quo (.wrap .u64 (.i2 .quo v0_ (.lit 256))) (.lit 256))) (.lit 256))) (.lit 256)))) .nil)) .nil))) (.cons (.tup (.cons (.int .u8 (.wrap .u8 (.i2 .rem (.wrap .u64 (.i2 .quo (.wrap .u64 (.i2 .quo (.wrap .u64 (.i2 .quo (.wrap .u64 (.i2 .quo v0_ (.lit 256))) (.lit 256))) (.lit 256))) (.lit 256))) (.lit 256)))) .nil)) .nil))) (.cons (.tup (.cons (.int .u8 (.wrap .u8 (.i2 .rem (.wrap .u64 (.i2 .quo (.wrap .u64 (.i2 .quo (.wrap .u64 (.i2 .quo (.wrap .u64 (.i2 .quo (.wrap .u64 (.i2 .quo v0_ (.lit 256))) (.lit 256))) (.lit 256))) (.lit 256))) (.lit 256))) (.lit 256)))) .nil)) .nil))) .nil))) (.lit 1)) (.lit 140737488355328))
 (.need (le_ (ad_ (.ofI (.vop (.len 1) (.cons (.vop .cat (.cons (.vop .cat (.cons (.vop .cat (.cons (.vop .cat (.cons (.vop .cat (.cons (.vop .cat (.cons (.vop .cat (.cons o0_ (.cons (.tup (.cons (.int .u8 (.wrap .u8 (.i2 .rem v0_ (.lit 256)))) .nil)) .nil))) (.cons (.tup (.cons (.int .u8 (.wrap .u8 (.i2 .rem (.wrap .u64 (.i2 .quo v0_ (.lit 256))) (.lit 256)))) .nil)) .nil))) (.cons (.tup (.cons (.int .u8 (.wrap .u8 (.i2 .rem (.wrap .u64 (.i2 .quo (.wrap .u64 (.i2 .quo v0_ (.lit 256))) (.lit 256))) (.lit 256)))) .nil)) .nil))) (.cons (.tup (.cons (.int .u8 (.wrap .u8 (.i2 .rem (.wrap .u64 (.i2 .quo (.wrap .u64 (.i2 .quo (.wrap .u64 (.i2 .quo v0_ (.lit 256))) (.lit 256))) (.lit 256))) (.lit 256)))) .nil)) .nil))) (.cons (.tup (.cons (.int .u8 (.wrap .u8 (.i2 .rem (.wrap .u64 (.i2 .quo (.wrap .u64 (.i2 .quo (.wrap .u64 (.i2 .quo (.wrap .u64 (.i2 .quo v0_ (.lit 256))) (.lit 256))) (.lit 256))) (.lit 256))) (.lit 256)))) .nil)) .nil))) (.cons (.tup (.cons (.int .u8 (.wrap .u8 (.i2 .rem (.wrap .u64 (.i2 .quo (.wrap .u64 (.i2 .quo (.wrap .u64 (.i2 .quo (.wrap .u64 (.i2 .quo (.wrap .u64 (.i2 .quo v0_ (.lit 256))) (.lit 256))) (.lit 256))) (.lit 256))) (.lit 256))) (.lit 256)))) .nil)) .nil))) (.cons (.tup (.cons (.int .u8 (.wrap .u8 (.i2 .rem (.wrap .u64 (.i2 .quo (.wrap .u64 (.i2 .quo (.wrap .u64 (.i2 .quo (.wrap .u64 (.i2 .quo (.wrap .u64 (.i2 .quo (.wrap .u64 (.i2 .quo v0_ (.lit 256))) (.lit 256))) (.lit 256))) (.lit 256))) (.lit 256))) (.lit 256))) (.lit 256)))) .nil)) .nil))) .nil))) (.lit 1)) (.lit 140737488355328))
 (.ret (.hs (.new 5) (.cons (.int .u8) .nil) (.vop .cat (.cons (.vop .cat (.cons (.vop .cat (.cons (.vop .cat (.cons (.vop .cat (.cons (.vop .cat (.cons (.vop .cat (.cons (.vop .cat (.cons o0_ (.cons (.tup (.cons (.int .u8 (.wrap .u8 (.i2 .rem v0_ (.lit 256)))) .nil)) .nil))) (.cons (.tup (.cons (.int .u8 (.wrap .u8 (.i2 .rem (.wrap .u64 (.i2 .quo v0_ (.lit 256))) (.lit 256)))) .nil)) .nil))) (.cons (.tup (.cons (.int .u8 (.wrap .u8 (.i2 .rem (.wrap .u64 (.i2 .quo (.wrap .u64 (.i2 .quo v0_ (.lit 256))) (.lit 256))) (.lit 256)))) .nil)) .nil))) (.cons (.tup (.cons (.int .u8 (.wrap .u8 (.i2 .rem (.wrap .u64 (.i2 .quo (.wrap .u64 (.i2 .quo (.wrap .u64 (.i2 .quo v0_ (.lit 256))) (.lit 256))) (.lit 256))) (.lit 256)))) .nil)) .nil))) (.cons (.tup (.cons (.int .u8 (.wrap .u8 (.i2 .rem (.wrap .u64 (.i2 .quo (.wrap .u64 (.i2 .quo (.wrap .u64 (.i2 .quo (.wrap .u64 (.i2 .quo v0_ (.lit 256))) (.lit 256))) (.lit 256))) (.lit 256))) (.lit 256)))) .nil)) .nil))) (.cons (.tup (.cons (.int .u8 (.wrap .u8 (.i2 .rem (.wrap .u64 (.i2 .quo (.wrap .u64 (.i2 .quo (.wrap .u64 (.i2 .quo (.wrap .u64 (.i2 .quo (.wrap .u64 (.i2 .quo v0_ (.lit 256))) (.lit 256))) (.lit 256))) (.lit 256))) (.lit 256))) (.lit 256)))) .nil)) .nil))) (.cons (.tup (.cons (.int .u8 (.wrap .u8 (.i2 .rem (.wrap .u64 (.i2 .quo (.wrap .u64 (.i2 .quo (.wrap .u64 (.i2 .quo (.wrap .u64 (.i2 .quo (.wrap .u64 (.i2 .quo (.wrap .u64 (.i2 .quo v0_ (.lit 256))) (.lit 256))) (.lit 256))) (.lit 256))) (.lit 256))) (.lit 256))) (.lit 256)))) .nil)) .nil))) (.cons (.tup (.cons (.int .u8 (.wrap .u8 (.i2 .rem (.wrap .u64 (.i2 .quo (.wrap .u64 (.i2 .quo (.wrap .u64 (.i2 .quo (.wrap .u64 (.i2 .quo (.wrap .u64 (.i2 .quo (.wrap .u64 (.i2 .quo (.wrap .u64 (.i2 .quo v0_ (.lit 256))) (.lit 256))) (.lit 256))) (.lit 256))) (.lit 256))) (.lit 256))) (.lit 256))) (.lit 256)))) .nil)) .nil))))))))))))))
abbrev ylc_rput8 : Con := ⟨137, [(.hs .no (.cons (.int .u8) .nil) o0_), (.int .u64 v0_), (.int .i64 (.lit 8))], (an_ (le_ (.ofI (.vop (.len 1) (.cons o0_ .nil))) (.lit 70368744177664)) (an_ (le_ (.lit 0) v0_) (le_ v0_ (.lit 18446744073709551615)))), (.hs (.new 5) (.cons (.int .u8) .nil) (.vapp 6 (.cons o0_ (.cons (.int .u64 v0_) .nil)))), ⟨1, 0, 1, 0⟩, none⟩
theorem rput8_w : walk Tryd.prog 182 ⟨[], syG, [], [], []⟩ [] (.o 5 (.cons (.int .u8) .nil)) ylc_rput8 ylc_rput8.n 3000 = some rput8_tree := by kernel_rfl
theorem rput8_h (v : Int) (l : Value) (hc : holds (ylE [v] [] [l] []) (an_ (le_ (.ofI (.vop (.len 1) (.cons o0_ .nil))) (.lit 70368744177664)) (an_ (le_ (.lit 0) v0_) (le_ v0_ (.lit 18446744073709551615))))) (hty : patsTyp (ylE [v] [] [l] []) [(.hs .no (.cons (.int .u8) .nil) o0_), (.int .u64 v0_), (.int .i64 (.lit 8))]) : rput8_tree.holds (fun v_ => v_ = denV (ylE [v] [] [l] []) b0 (.hs (.new 5) (.cons (.int .u8) .nil) (.vapp 6 (.cons o0_ (.cons (.int .u64 v0_) .nil))))) (ylE [v] [] [l] []) := by
  simp only [Tree.holds, Sy.holds, AllN, Env.more, ylE, List.cons_append, List.nil_append, List.append_nil, denV, denI, denB, denL, I2.den, VOp.den, List.getD_cons_zero, List.getD_cons_succ, Cst.den, syso, syse, syio, sybo, List.map_nil, List.map_cons, B2.ofInts, B2.denI, B2.denB, if_true, Bool.false_eq_true, if_false, Nat.div_one, Nat.mul_one, Nat.add_zero, holds] at hc
  simp only [patsTyp, patTyp, patTypL, ylE, denV, denL, List.getD_cons_zero, List.getD_cons_succ, and_true, true_and] at hty
  have hL_l : typ (.sl (.cons (.int .u8) .nil)) l := by first | exact hty | exact hty.1 | exact hty.2 | exact hty.1.1 | exact hty.1.2 | exact hty.2.1 | exact hty.2.2 | exact hty.2.2.1 | exact hty.2.2.2
  have hN_l := typ_len (n := 1) hL_l rfl (by omega)
  simp only [Nat.div_one, Nat.mul_one] at hN_l
  unfold rput8_tree
  simp only [Tree.holds, Sy.holds, AllN, Env.more, ylE, List.cons_append, List.nil_append, List.append_nil, denV, denI, denB, denL, I2.den, VOp.den, List.getD_cons_zero, List.getD_cons_succ, Cst.den, syso, syse, syio, sybo, ylv_p8, List.map_nil, List.map_cons, B2.ofInts, B2.denI, B2.denB, if_true, Bool.false_eq_true, if_false, Nat.div_one, Nat.mul_one, Nat.add_zero]
  refine ⟨?_, fun h0 => ?_⟩
  ·
   first
   | omega
   | (simp only [rows_tup, List.length_append, List.length_cons, List.length_nil, List.size_toArray]
      omega)
   | exact hc.1
  ·
   refine ⟨?_, fun h1 => ?_⟩
   ·
    first
    | omega
    | (simp only [rows_tup, List.length_append, List.length_cons, List.length_nil, List.size_toArray]
       omega)
    | exact hc.1
   ·
    refine ⟨?_, fun h2 => ?_⟩
    ·
     first
     | omega
     | (simp only [rows_tup, List.length_append, List.length_cons, List.length_nil, List.size_toArray]
        omega)
     | exact hc.1
    ·
     try simp only [hw0]
     refine ⟨?_, fun h3 => ?_⟩
     ·
      first
      | omega
      | (simp only [rows_tup, List.length_append, List.length_cons, List.length_nil, List.size_toArray]
         omega)
      | exact hc.1
     ·
      try simp only [hw2]
      try simp only [hw1]
      try simp only [hw0]
      refine ⟨?_, fun h4 => ?_⟩
      ·
       first
       | omega
       | (simp only [rows_tup, List.length_append, List.length_cons, List.length_nil, List.size_toArray]
          omega)
       | exact hc.1
      ·
       try simp only [hw4]
       try simp only [hw3]
       try simp only [hw2]
       try simp only [hw1]
       try simp only [hw0]
       refine ⟨?_, fun h5 => ?_⟩
       ·
        first
        | omega
        | (simp only [rows_tup, List.length_append, List.length_cons, List.length_nil, List.size_toArray]
           omega)
        | exact hc.1
       ·
        try simp only [hw6]
        try simp only [hw5]
        try simp only [hw4]
        try simp only [hw3]
        try simp only [hw2]
        try simp only [hw1]
        try simp only [hw0]
        refine ⟨?_, fun h6 => ?_⟩
        ·
         first
         | omega
         | (simp only [rows_tup, List.length_append, List.length_cons, List.length_nil, List.size_toArray]
            omega)
         | exact hc.1
        ·
         try simp only [hw8]
         try simp only [hw7]
         try simp only [hw6]
         try simp only [hw5]
         try simp only [hw4]
         try simp only [hw3]
         try simp only [hw2]
         try simp only [hw1]
         try simp only [hw0]
         refine ⟨?_, fun h7 => ?_⟩
         ·
          first
          | omega
          | (simp only [rows_tup, List.length_append, List.length_cons, List.length_nil, List.size_toArray]
             omega)
          | exact hc.1
         ·
          try simp only [hw10]
          try simp only [hw9]
          try simp only [hw8]
          try simp only [hw7]
          try simp only [hw6]
          try simp only [hw5]
          try simp only [hw4]
          try simp only [hw3]
          try simp only [hw2]
          try simp only [hw1]
          try simp only [hw0]
          refine ⟨?_, fun h8 => ?_⟩
          ·
           first
           | omega
           | (simp only [rows_tup, List.length_append, List.length_cons, List.length_nil, List.size_toArray]
              omega)
           | exact hc.1
          ·
           try simp only [hw12]
           try simp only [hw11]
           try simp only [hw10]
           try simp only [hw9]
           try simp only [hw8]
           try simp only [hw7]
           try simp only [hw6]
           try simp only [hw5]
           try simp only [hw4]
           try simp only [hw3]
           try simp only [hw2]
           try simp only [hw1]
           try simp only [hw0]
           simp only [rows_tup, List.append_assoc, List.cons_append, List.nil_append, putV]
           obtain ⟨v1, hv1⟩ : ∃ x, x = v / 256 := ⟨_, rfl⟩
           have b1 : 0 ≤ v1 ∧ v1 ≤ 18446744073709551615 := by omega
           have e1 : IntKind.wrap .u64 (v.tdiv 256) = v1 := by rw [td8 (by omega), wrap_u64]; omega
           simp only [e1]
           obtain ⟨v2, hv2⟩ : ∃ x, x = v1 / 256 := ⟨_, rfl⟩
           have b2 : 0 ≤ v2 ∧ v2 ≤ 18446744073709551615 := by omega
           have e2 : IntKind.wrap .u64 (v1.tdiv 256) = v2 := by rw [td8 (by omega), wrap_u64]; omega
           simp only [e2]
           obtain ⟨v3, hv3⟩ : ∃ x, x = v2 / 256 := ⟨_, rfl⟩
           have b3 : 0 ≤ v3 ∧ v3 ≤ 18446744073709551615 := by omega
           have e3 : IntKind.wrap .u64 (v2.tdiv 256) = v3 := by rw [td8 (by omega), wrap_u64]; omega
           simp only [e3]
           obtain ⟨v4, hv4⟩ : ∃ x, x = v3 / 256 := ⟨_, rfl⟩
           have b4 : 0 ≤ v4 ∧ v4 ≤ 18446744073709551615 := by omega
           have e4 : IntKind.wrap .u64 (v3.tdiv 256) = v4 := by rw [td8 (by omega), wrap_u64]; omega
           simp only [e4]
           obtain ⟨v5, hv5⟩ : ∃ x, x = v4 / 256 := ⟨_, rfl⟩
           have b5 : 0 ≤ v5 ∧ v5 ≤ 18446744073709551615 := by omega
           have e5 : IntKind.wrap .u64 (v4.tdiv 256) = v5 := by rw [td8 (by omega), wrap_u64]; omega
           simp only [e5]
           obtain ⟨v6, hv6⟩ : ∃ x, x = v5 / 256 := ⟨_, rfl⟩
           have b6 : 0 ≤ v6 ∧ v6 ≤ 18446744073709551615 := by omega
           have e6 : IntKind.wrap .u64 (v5.tdiv 256) = v6 := by rw [td8 (by omega), wrap_u64]; omega
           simp only [e6]
           obtain ⟨v7, hv7⟩ : ∃ x, x = v6 / 256 := ⟨_, rfl⟩
           have b7 : 0 ≤ v7 ∧ v7 ≤ 18446744073709551615 := by omega
           have e7 : IntKind.wrap .u64 (v6.tdiv 256) = v7 := by rw [td8 (by omega), wrap_u64]; omega
           simp only [e7]
           simp only [wrap_u8, tm8 (show 0 ≤ v by omega), tm8 (show 0 ≤ v1 by omega), tm8 (show 0 ≤ v2 by omega), tm8 (show 0 ≤ v3 by omega), tm8 (show 0 ≤ v4 by omega), tm8 (show 0 ≤ v5 by omega), tm8 (show 0 ≤ v6 by omega), tm8 (show 0 ≤ v7 by omega), Int.emod_emod]
           refine tup_congr ?_
           simp only [numB, ← hv1, ← hv2, ← hv3, ← hv4, ← hv5, ← hv6, ← hv7]
theorem ylg_rput8 : ylc_rput8.Good Tryd.prog syG (ylE [] [] [] []) := good_of_walk (Γ := ⟨[], syG, [], [], []⟩) (ρ := ylE [] [] [] []) sym rput8_w rfl (fun _ _ _ _ => ok_nil) (fun v l hc hty => rput8_h v l hc hty)
def lenc_tree : Tree :=
 (.br (.not (eq_ (.iapp 10 (.cons z0_ (.cons z1_ (.cons o0_ .nil)))) (.lit 0)))
 (.ret (.tup (.cons (.hs .no (.cons (.int .u8) .nil) (.tup .nil)) (.cons (.err (.iapp 10 (.cons z0_ (.cons z1_ (.cons o0_ .nil))))) .nil))))
 (.need (an_ (le_ (.ofI (.vop (.len 1) (.cons (.tup .nil) .nil))) (.lit 70368744177664)) (an_ (le_ lm_ v0_) (le_ v0_ lM_)))
 (.need (an_ (le_ (.ofI (.vop (.len 1) (.cons (.vapp 6 (.cons (.tup .nil) (.cons z0_ .nil))) .nil))) (.lit 70368744177664)) (an_ (le_ lm_ v1_) (le_ v1_ lM_)))
 (.need (le_ (ad_ (.ofI (.vop (.len 1) (.cons (.vapp 6 (.cons (.vapp 6 (.cons (.tup .nil) (.cons z0_ .nil))) (.cons z1_ .nil))) .nil))) (.lit 1)) (.lit 140737488355328))
 (.loop ⟨1, 0, 1, 0⟩ (an_ (le_ (.lit 0) (.lit 0)) (an_ (le_ (.lit 0) (.ofI (.vop (.len 1) (.cons o0_ .nil)))) (.bapp 6 (.cons (.vop .cat (.cons (.vapp 6 (.cons (.vapp 6 (.cons (.tup .nil) (.cons z0_ .nil))) (.cons z1_ .nil))) (.cons (.tup (.cons (.int .u8 (.wrap .u8 (.ofI (.vop (.len 1) (.cons o0_ .nil))))) .nil)) .nil))) (.cons (.vapp 9 (.cons o0_ (.cons z0_ (.cons z1_ (.cons (.int .i64 (.lit 0)) .nil))))) .nil))))) (an_ (le_ (.lit 0) v2_) (an_ (le_ v2_ (.ofI (.vop (.len 1) (.cons o0_ .nil)))) (.bapp 6 (.cons o1_ (.cons (.vapp 9 (.cons o0_ (.cons z0_ (.cons z1_ (.cons z2_ .nil))))) .nil)))))
 (.br (lt_ v2_ (.ofI (.vop (.len 1) (.cons o0_ .nil))))
 (.need (an_ (le_ (.lit 0) v2_) (lt_ v2_ (.ofI (.vop (.len 1) (.cons o0_ .nil)))))
 (.need (an_ (le_ (.ofI (.vop (.len 1) (.cons o1_ .nil))) (.lit 70368744177664)) (an_ (le_ lm_ (.ofI (.vop (.sel 1 0) (.cons o0_ (.cons z2_ .nil))))) (le_ (.ofI (.vop (.sel 1 0) (.cons o0_ (.cons z2_ .nil)))) lM_)))
 (.back (an_ (le_ (.lit 0) (wr_ (ad_ v2_ (.lit 1)))) (an_ (le_ (wr_ (ad_ v2_ (.lit 1))) (.ofI (.vop (.len 1) (.cons o0_ .nil)))) (.bapp 6 (.cons (.vapp 6 (.cons o1_ (.cons (.int .i64 (.ofI (.vop (.sel 1 0) (.cons o0_ (.cons z2_ .nil))))) .nil))) (.cons (.vapp 9 (.cons o0_ (.cons z0_ (.cons z1_ (.cons (.int .i64 (wr_ (ad_ v2_ (.lit 1)))) .nil))))) .nil))))) (sb_ (.ofI (.vop (.len 1) (.cons o0_ .nil))) (wr_ (ad_ v2_ (.lit 1)))) (sb_ (.ofI (.vop (.len 1) (.cons o0_ .nil))) v2_))))
 (.need (an_ (.bapp 0 (.cons o1_ .nil)) (le_ (.ofI (.vop (.len 1) (.cons o1_ .nil))) (.lit 140737488355000)))
 (.ret (.tup (.cons (.hs .no (.cons (.int .u8) .nil) (.vapp 7 (.cons o1_ (.cons (.int .u8 (.lit 5)) .nil)))) (.cons (.err (.iapp 5 (.cons o1_ (.cons (.int .u8 (.lit 5)) .nil)))) .nil)))))))))))
abbrev ylc_lenc : Con := ⟨48, [(.agg (.cons z0_ (.cons z1_ (.cons (.hs .no (.cons (.int .i64) .nil) o0_) .nil))))], (an_ (an_ (le_ lm_ v0_) (le_ v0_ lM_)) (an_ (le_ lm_ v1_) (le_ v1_ lM_))), (.tup (.cons (.hs .no (.cons (.int .u8) .nil) (.vapp 10 (.cons o0_ (.cons z0_ (.cons z1_ .nil))))) (.cons (.err (.iapp 30 (.cons o0_ (.cons z0_ (.cons z1_ .nil))))) .nil))), ⟨2, 0, 1, 0⟩, none⟩
theorem lenc_w : walk Tryd.prog 182 ⟨[yfc_check, ylc_i64p, zb6c_seal], syG, [], [], []⟩ [⟨0, ⟨1, 0, 1, 0⟩, [(29, z2_), (5, (.hs (.id 1000 5) (.cons (.int .u8) .nil) o1_))], none, (an_ (le_ (.lit 0) v2_) (an_ (le_ v2_ (.ofI (.vop (.len 1) (.cons o0_ .nil)))) (.bapp 6 (.cons o1_ (.cons (.vapp 9 (.cons o0_ (.cons z0_ (.cons z1_ (.cons z2_ .nil))))) .nil))))), (sb_ (.ofI (.vop (.len 1) (.cons o0_ .nil))) v2_), 1, []⟩] (.tup (.cons (.s (.cons (.int .u8) .nil)) (.cons .v .nil))) ylc_lenc ylc_lenc.n 3000 = some lenc_tree := by kernel_rfl
theorem lenc_h (b : Int) (t : Int) (l : Value) (hc : holds (ylE [b, t] [] [l] []) (an_ (an_ (le_ lm_ v0_) (le_ v0_ lM_)) (an_ (le_ lm_ v1_) (le_ v1_ lM_)))) (hty : patsTyp (ylE [b, t] [] [l] []) [(.agg (.cons z0_ (.cons z1_ (.cons (.hs .no (.cons (.int .i64) .nil) o0_) .nil))))]) : lenc_tree.holds (fun v_ => v_ = denV (ylE [b, t] [] [l] []) b0 (.tup (.cons (.hs .no (.cons (.int .u8) .nil) (.vapp 10 (.cons o0_ (.cons z0_ (.cons z1_ .nil))))) (.cons (.err (.iapp 30 (.cons o0_ (.cons z0_ (.cons z1_ .nil))))) .nil)))) (ylE [b, t] [] [l] []) := by
  simp only [Tree.holds, Sy.holds, AllN, Env.more, ylE, List.cons_append, List.nil_append, List.append_nil, denV, denI, denB, denL, I2.den, VOp.den, List.getD_cons_zero, List.getD_cons_succ, Cst.den, syso, syse, syio, sybo, List.map_nil, List.map_cons, B2.ofInts, B2.denI, B2.denB, if_true, Bool.false_eq_true, if_false, Nat.div_one, Nat.mul_one, Nat.add_zero, holds] at hc
  simp only [patsTyp, patTyp, patTypL, ylE, denV, denL, List.getD_cons_zero, List.getD_cons_succ, and_true, true_and] at hty
  have hL_l : typ (.sl (.cons (.int .i64) .nil)) l := by first | exact hty | exact hty.1 | exact hty.2 | exact hty.1.1 | exact hty.1.2 | exact hty.2.1 | exact hty.2.2 | exact hty.2.2.1 | exact hty.2.2.2
  have hN_l := typ_len (n := 1) hL_l rfl (by omega)
  simp only [Nat.div_one, Nat.mul_one] at hN_l
  unfold lenc_tree
  simp only [Tree.holds, Sy.holds, AllN, Env.more, ylE, List.cons_append, List.nil_append, List.append_nil, denV, denI, denB, denL, I2.den, VOp.den, List.getD_cons_zero, List.getD_cons_succ, Cst.den, syso, syse, syio, sybo, yli_sle, yli_may, yli_lke, ylb_okr, ylb_eqv, ylv_p8, ylv_slv, ylv_lpa, ylv_lkv, List.map_nil, List.map_cons, B2.ofInts, B2.denI, B2.denB, if_true, Bool.false_eq_true, if_false, Nat.div_one, Nat.mul_one, Nat.add_zero]
  have k1 := lk_spec b t (intsOf l)
  have hlen := ints_len l
  refine ⟨fun h0 => ?_, fun h0 => ?_⟩
  ·
   rcases k1 with ⟨_, _, x, _⟩ | ⟨E, _, M, V0⟩
   · exfalso; omega
   · first
     | (rw [E, V0, M]
        done)
     | (rw [E, V0]
        done)
     | (rw [E, V0]
        rfl)
  ·
   refine ⟨?_, fun h1 => ?_⟩
   ·
    first
    | omega
    | (simp only [put_rows, rows_nil, List.nil_append, List.length_append, List.length_nil, numB_len]
       omega)
   ·
    refine ⟨?_, fun h2 => ?_⟩
    ·
     first
     | omega
     | (simp only [put_rows, rows_nil, List.nil_append, List.length_append, List.length_nil, numB_len]
        omega)
    ·
     refine ⟨?_, fun h3 => ?_⟩
     ·
      first
      | omega
      | (simp only [put_rows, rows_nil, List.nil_append, List.length_append, List.length_nil, numB_len]
         omega)
     ·
      have wf0 := wr_u8 ((((rows l).length : Nat)) : Int)
      refine ⟨?_, ?_⟩
      ·
       exact ⟨by omega, by omega, eqV_iff.2 (enc0 b t (intsOf l) hlen)⟩
      ·
       intro i0a i0b hi0
       refine ⟨fun h4 => ?_, fun h4 => ?_⟩
       ·
        refine ⟨?_, fun h5 => ?_⟩
        ·
         first
         | omega
         | (obtain ⟨q0, q1, q2⟩ := hi0
            have q3 := eqV_iff.1 q2
            have hml : mayL b t (intsOf l) = true := by
              rcases k1 with ⟨_, x, _⟩ | ⟨_, _, x, _⟩
              · exact x
              · exfalso; omega
            have hb : (Sy.rows i0b).length = 17 + 8 * ((intsOf l).take i0a.toNat).length := by rw [q3, rows_arr]; exact enc_len ..
            have hT : ((intsOf l).take i0a.toNat).length ≤ 32 := by rw [List.length_take]; omega
            have hB : isB (Sy.rows i0b) := by rw [q3, rows_arr]; exact isB_enc _ _ _ _
            by_cases hlt : ¬ i0a < ((Sy.rows l).length : Int)
            · first
              | (exfalso; omega)
              | (refine ⟨okR_isB hB, ?_⟩
                 omega)
            · have hlt2 : i0a < ((Sy.rows l).length : Int) := by omega
              first
              | (exfalso; omega)
              | (have hm := may_at hml (i := i0a.toNat) (by omega)
                 rw [getD_of (ints_at l (i := i0a.toNat) (by omega))] at hm
                 skip
                 omega))
        ·
         refine ⟨?_, fun h6 => ?_⟩
         ·
          first
          | omega
          | (obtain ⟨q0, q1, q2⟩ := hi0
             have q3 := eqV_iff.1 q2
             have hml : mayL b t (intsOf l) = true := by
               rcases k1 with ⟨_, x, _⟩ | ⟨_, _, x, _⟩
               · exact x
               · exfalso; omega
             have hb : (Sy.rows i0b).length = 17 + 8 * ((intsOf l).take i0a.toNat).length := by rw [q3, rows_arr]; exact enc_len ..
             have hT : ((intsOf l).take i0a.toNat).length ≤ 32 := by rw [List.length_take]; omega
             have hB : isB (Sy.rows i0b) := by rw [q3, rows_arr]; exact isB_enc _ _ _ _
             by_cases hlt : ¬ i0a < ((Sy.rows l).length : Int)
             · first
               | (exfalso; omega)
               | (refine ⟨okR_isB hB, ?_⟩
                  omega)
             · have hlt2 : i0a < ((Sy.rows l).length : Int) := by omega
               first
               | (exfalso; omega)
               | (have hm := may_at hml (i := i0a.toNat) (by omega)
                  rw [getD_of (ints_at l (i := i0a.toNat) (by omega))] at hm
                  skip
                  omega))
         ·
          have wf1 := wr_i64 (i0a + 1)
          refine ⟨?_, ?_⟩
          ·
           obtain ⟨q0, q1, q2⟩ := hi0
           have hw : IntKind.wrap .i64 (i0a + 1) = i0a + 1 := by have := wr_i64 (i0a + 1); omega
           rw [hw, toNat_succ (by omega)]
           refine ⟨by omega, by omega, eqV_iff.2 ?_⟩
           skip
           rw [eqV_iff.1 q2]
           exact encS (ints_at l (by omega))
          ·
           have := wr_i64 (i0a + 1)
           omega
       ·
        refine ⟨?_, fun h7 => ?_⟩
        ·
         first
         | omega
         | (obtain ⟨q0, q1, q2⟩ := hi0
            have q3 := eqV_iff.1 q2
            have hml : mayL b t (intsOf l) = true := by
              rcases k1 with ⟨_, x, _⟩ | ⟨_, _, x, _⟩
              · exact x
              · exfalso; omega
            have hb : (Sy.rows i0b).length = 17 + 8 * ((intsOf l).take i0a.toNat).length := by rw [q3, rows_arr]; exact enc_len ..
            have hT : ((intsOf l).take i0a.toNat).length ≤ 32 := by rw [List.length_take]; omega
            have hB : isB (Sy.rows i0b) := by rw [q3, rows_arr]; exact isB_enc _ _ _ _
            by_cases hlt : ¬ i0a < ((Sy.rows l).length : Int)
            · first
              | (exfalso; omega)
              | (refine ⟨okR_isB hB, ?_⟩
                 omega)
            · have hlt2 : i0a < ((Sy.rows l).length : Int) := by omega
              first
              | (exfalso; omega)
              | (have hm := may_at hml (i := i0a.toNat) (by omega)
                 rw [getD_of (ints_at l (i := i0a.toNat) (by omega))] at hm
                 skip
                 omega))
        ·
         obtain ⟨q0, q1, q2⟩ := hi0
         rcases k1 with ⟨E, M, x, V0, n⟩ | ⟨_, _, x, _⟩
         · have hl : (encB b t (intsOf l) (intsOf l).length).length ≤ 1024 := by rw [enc_len, List.take_length]; omega
           have hs : slE (encB b t (intsOf l) (intsOf l).length) 5 = 0 := by rcases sl_spec (encB b t (intsOf l) (intsOf l).length) 5 with h | h | h <;> omega
           rw [eqV_iff.1 q2, rows_arr, show i0a.toNat = (intsOf l).length by omega, E, V0, hs]
         · exfalso; omega
theorem ylg_lenc : ylc_lenc.Good Tryd.prog syG (ylE [] [] [] []) := good_of_walk (Γ := ⟨[yfc_check, ylc_i64p, zb6c_seal], syG, [], [], []⟩) (ρ := ylE [] [] [] []) sym lenc_w rfl (fun _ _ _ _ => (ok_cons (Con.Good.env (Con.Good.up yfg_check ylup rfl) _ _ _ _) (ok_cons (Con.Good.env ylg_i64p _ _ _ _) (ok_cons (Con.Good.env (Con.Good.up (Con.Good.up zb6g_seal yfup rfl) ylup rfl) _ _ _ _) ok_nil)))) (fun b t l hc hty => lenc_h b t l hc hty)
def renc_tree : Tree :=
 (.br (.not (eq_ (.iapp 10 (.cons z0_ (.cons z1_ (.cons o0_ .nil)))) (.lit 0)))
 (.ret (.tup (.cons (.hs .no (.cons (.int .u8) .nil) (.tup .nil)) (.cons (.int .i64 (.lit 1)) .nil))))
 (.need (an_ (le_ (.ofI (.vop (.len 1) (.cons (.tup .nil) .nil))) (.lit 70368744177664)) (an_ (le_ (.lit 0) (.wrap .u64 v0_)) (le_ (.wrap .u64 v0_) (.lit 18446744073709551615))))
 (.need (an_ (le_ (.ofI (.vop (.len 1) (.cons (.vapp 6 (.cons (.tup .nil) (.cons (.int .u64 (.wrap .u64 v0_)) .nil))) .nil))) (.lit 70368744177664)) (an_ (le_ (.lit 0) (.wrap .u64 v1_)) (le_ (.wrap .u64 v1_) (.lit 18446744073709551615))))
 (.need (an_ (le_ (.ofI (.vop (.len 1) (.cons (.vapp 6 (.cons (.vapp 6 (.cons (.tup .nil) (.cons (.int .u64 (.wrap .u64 v0_)) .nil))) (.cons (.int .u64 (.wrap .u64 v1_)) .nil))) .nil))) (.lit 70368744177664)) (an_ (le_ (.lit 0) (.wrap .u64 (.ofI (.vop (.len 1) (.cons o0_ .nil))))) (le_ (.wrap .u64 (.ofI (.vop (.len 1) (.cons o0_ .nil)))) (.lit 18446744073709551615))))
 (.loop ⟨1, 0, 1, 0⟩ (an_ (le_ (.lit 0) (.lit 0)) (an_ (le_ (.lit 0) (.ofI (.vop (.len 1) (.cons o0_ .nil)))) (.bapp 6 (.cons (.vapp 3 (.cons (.vapp 6 (.cons (.vapp 6 (.cons (.tup .nil) (.cons (.int .u64 (.wrap .u64 v0_)) .nil))) (.cons (.int .u64 (.wrap .u64 v1_)) .nil))) (.cons (.int .u64 (.wrap .u64 (.ofI (.vop (.len 1) (.cons o0_ .nil))))) .nil))) (.cons (.vapp 9 (.cons o0_ (.cons z0_ (.cons z1_ (.cons (.int .i64 (.lit 0)) .nil))))) .nil))))) (an_ (le_ (.lit 0) v2_) (an_ (le_ v2_ (.ofI (.vop (.len 1) (.cons o0_ .nil)))) (.bapp 6 (.cons o1_ (.cons (.vapp 9 (.cons o0_ (.cons z0_ (.cons z1_ (.cons z2_ .nil))))) .nil)))))
 (.br (lt_ v2_ (.ofI (.vop (.len 1) (.cons o0_ .nil))))
 (.need (an_ (le_ (.lit 0) v2_) (lt_ v2_ (.ofI (.vop (.len 1) (.cons o0_ .nil)))))
 (.need (an_ (le_ (.ofI (.vop (.len 1) (.cons o1_ .nil))) (.lit 70368744177664)) (an_ (le_ (.lit 0) (.wrap .u64 (.ofI (.vop (.sel 1 0) (.cons o0_ (.cons z2_ .nil)))))) (le_ (.wrap .u64 (.ofI (.vop (.sel 1 0) (.cons o0_ (.cons z2_ .nil))))) (.lit 18446744073709551615))))
 (.back (an_ (le_ (.lit 0) (wr_ (ad_ v2_ (.lit 1)))) (an_ (le_ (wr_ (ad_ v2_ (.lit 1))) (.ofI (.vop (.len 1) (.cons o0_ .nil)))) (.bapp 6 (.cons (.vapp 6 (.cons o1_ (.cons (.int .u64 (.wrap .u64 (.ofI (.vop (.sel 1 0) (.cons o0_ (.cons z2_ .nil)))))) .nil))) (.cons (.vapp 9 (.cons o0_ (.cons z0_ (.cons z1_ (.cons (.int .i64 (wr_ (ad_ v2_ (.lit 1)))) .nil))))) .nil))))) (sb_ (.ofI (.vop (.len 1) (.cons o0_ .nil))) (wr_ (ad_ v2_ (.lit 1)))) (sb_ (.ofI (.vop (.len 1) (.cons o0_ .nil))) v2_))))
 (.need (an_ (.bapp 0 (.cons o1_ .nil)) (le_ (.ofI (.vop (.len 1) (.cons o1_ .nil))) (.lit 140737488355000)))
 (.ret (.tup (.cons (.hs .no (.cons (.int .u8) .nil) (.vapp 7 (.cons o1_ (.cons (.int .u8 (.lit 5)) .nil)))) (.cons (.int .i64 (.iapp 5 (.cons o1_ (.cons (.int .u8 (.lit 5)) .nil)))) .nil)))))))))))
abbrev ylc_renc : Con := ⟨49, [(.agg (.cons z0_ (.cons z1_ (.cons (.hs .no (.cons (.int .i64) .nil) o0_) .nil))))], (an_ (an_ (le_ lm_ v0_) (le_ v0_ lM_)) (an_ (le_ lm_ v1_) (le_ v1_ lM_))), (.tup (.cons (.hs .no (.cons (.int .u8) .nil) (.vapp 10 (.cons o0_ (.cons z0_ (.cons z1_ .nil))))) (.cons (.int .i64 (.iapp 30 (.cons o0_ (.cons z0_ (.cons z1_ .nil))))) .nil))), ⟨2, 0, 1, 0⟩, none⟩
theorem renc_w : walk Tryd.prog 182 ⟨[yfc_rmay9, ylc_rput1, ylc_rput8, zb6c_rseal], syG, [], [], []⟩ [⟨0, ⟨1, 0, 1, 0⟩, [(5, z2_), (4, (.hs (.id 1000 5) (.cons (.int .u8) .nil) o1_))], none, (an_ (le_ (.lit 0) v2_) (an_ (le_ v2_ (.ofI (.vop (.len 1) (.cons o0_ .nil)))) (.bapp 6 (.cons o1_ (.cons (.vapp 9 (.cons o0_ (.cons z0_ (.cons z1_ (.cons z2_ .nil))))) .nil))))), (sb_ (.ofI (.vop (.len 1) (.cons o0_ .nil))) v2_), 1, []⟩] (.tup (.cons (.s (.cons (.int .u8) .nil)) (.cons .v .nil))) ylc_renc ylc_renc.n 3000 = some renc_tree := by kernel_rfl
theorem renc_h (b : Int) (t : Int) (l : Value) (hc : holds (ylE [b, t] [] [l] []) (an_ (an_ (le_ lm_ v0_) (le_ v0_ lM_)) (an_ (le_ lm_ v1_) (le_ v1_ lM_)))) (hty : patsTyp (ylE [b, t] [] [l] []) [(.agg (.cons z0_ (.cons z1_ (.cons (.hs .no (.cons (.int .i64) .nil) o0_) .nil))))]) : renc_tree.holds (fun v_ => v_ = denV (ylE [b, t] [] [l] []) b0 (.tup (.cons (.hs .no (.cons (.int .u8) .nil) (.vapp 10 (.cons o0_ (.cons z0_ (.cons z1_ .nil))))) (.cons (.int .i64 (.iapp 30 (.cons o0_ (.cons z0_ (.cons z1_ .nil))))) .nil)))) (ylE [b, t] [] [l] []) := by
  simp only [Tree.holds, Sy.holds, AllN, Env.more, ylE, List.cons_append, List.nil_append, List.append_nil, denV, denI, denB, denL, I2.den, VOp.den, List.getD_cons_zero, List.getD_cons_succ, Cst.den, syso, syse, syio, sybo, List.map_nil, List.map_cons, B2.ofInts, B2.denI, B2.denB, if_true, Bool.false_eq_true, if_false, Nat.div_one, Nat.mul_one, Nat.add_zero, holds] at hc
  simp only [patsTyp, patTyp, patTypL, ylE, denV, denL, List.getD_cons_zero, List.getD_cons_succ, and_true, true_and] at hty
  have hL_l : typ (.sl (.cons (.int .i64) .nil)) l := by first | exact hty | exact hty.1 | exact hty.2 | exact hty.1.1 | exact hty.1.2 | exact hty.2.1 | exact hty.2.2 | exact hty.2.2.1 | exact hty.2.2.2
  have hN_l := typ_len (n := 1) hL_l rfl (by omega)
  simp only [Nat.div_one, Nat.mul_one] at hN_l
  unfold renc_tree
  simp only [Tree.holds, Sy.holds, AllN, Env.more, ylE, List.cons_append, List.nil_append, List.append_nil, denV, denI, denB, denL, I2.den, VOp.den, List.getD_cons_zero, List.getD_cons_succ, Cst.den, syso, syse, syio, sybo, yli_sle, yli_may, yli_lke, ylb_okr, ylb_eqv, ylv_p1, ylv_p8, ylv_slv, ylv_lpa, ylv_lkv, List.map_nil, List.map_cons, B2.ofInts, B2.denI, B2.denB, if_true, Bool.false_eq_true, if_false, Nat.div_one, Nat.mul_one, Nat.add_zero]
  have k1 := lk_spec b t (intsOf l)
  have hlen := ints_len l
  refine ⟨fun h0 => ?_, fun h0 => ?_⟩
  ·
   rcases k1 with ⟨_, _, x, _⟩ | ⟨E, _, M, V0⟩
   · exfalso; omega
   · first
     | (rw [E, V0, M]
        done)
     | (rw [E, V0]
        done)
     | (rw [E, V0]
        rfl)
  ·
   have wf0 := wr_u64 b
   refine ⟨?_, fun h1 => ?_⟩
   ·
    first
    | omega
    | (simp only [put_rows, rows_nil, List.nil_append, List.length_append, List.length_nil, numB_len]
       omega)
   ·
    have wf1 := wr_u64 t
    try simp only [hw0]
    refine ⟨?_, fun h2 => ?_⟩
    ·
     first
     | omega
     | (simp only [put_rows, rows_nil, List.nil_append, List.length_append, List.length_nil, numB_len]
        omega)
    ·
     have wf2 := wr_u64 ((((rows l).length : Nat)) : Int)
     try simp only [hw1]
     try simp only [hw0]
     refine ⟨?_, fun h3 => ?_⟩
     ·
      first
      | omega
      | (simp only [put_rows, rows_nil, List.nil_append, List.length_append, List.length_nil, numB_len]
         omega)
     ·
      try simp only [hw2]
      try simp only [hw1]
      try simp only [hw0]
      refine ⟨?_, ?_⟩
      ·
       exact ⟨by omega, by omega, eqV_iff.2 (by rw [put_u64 (v := b) _ hc.1.1 hc.1.2, put_u64 (v := t) _ hc.2.1 hc.2.2]; exact renc0 b t (intsOf l) hlen (by omega))⟩
      ·
       intro i0a i0b hi0
       refine ⟨fun h4 => ?_, fun h4 => ?_⟩
       ·
        refine ⟨?_, fun h5 => ?_⟩
        ·
         first
         | omega
         | (obtain ⟨q0, q1, q2⟩ := hi0
            have q3 := eqV_iff.1 q2
            have hml : mayL b t (intsOf l) = true := by
              rcases k1 with ⟨_, x, _⟩ | ⟨_, _, x, _⟩
              · exact x
              · exfalso; omega
            have hb : (Sy.rows i0b).length = 17 + 8 * ((intsOf l).take i0a.toNat).length := by rw [q3, rows_arr]; exact enc_len ..
            have hT : ((intsOf l).take i0a.toNat).length ≤ 32 := by rw [List.length_take]; omega
            have hB : isB (Sy.rows i0b) := by rw [q3, rows_arr]; exact isB_enc _ _ _ _
            by_cases hlt : ¬ i0a < ((Sy.rows l).length : Int)
            · first
              | (exfalso; omega)
              | (refine ⟨okR_isB hB, ?_⟩
                 omega)
            · have hlt2 : i0a < ((Sy.rows l).length : Int) := by omega
              first
              | (exfalso; omega)
              | (have hm := may_at hml (i := i0a.toNat) (by omega)
                 rw [getD_of (ints_at l (i := i0a.toNat) (by omega))] at hm
                 skip
                 omega))
        ·
         have wf3 := wr_u64 (Go.RowKit.intOf ((rows l).getD (Int.toNat i0a) Go.undef))
         refine ⟨?_, fun h6 => ?_⟩
         ·
          first
          | omega
          | (obtain ⟨q0, q1, q2⟩ := hi0
             have q3 := eqV_iff.1 q2
             have hml : mayL b t (intsOf l) = true := by
               rcases k1 with ⟨_, x, _⟩ | ⟨_, _, x, _⟩
               · exact x
               · exfalso; omega
             have hb : (Sy.rows i0b).length = 17 + 8 * ((intsOf l).take i0a.toNat).length := by rw [q3, rows_arr]; exact enc_len ..
             have hT : ((intsOf l).take i0a.toNat).length ≤ 32 := by rw [List.length_take]; omega
             have hB : isB (Sy.rows i0b) := by rw [q3, rows_arr]; exact isB_enc _ _ _ _
             by_cases hlt : ¬ i0a < ((Sy.rows l).length : Int)
             · first
               | (exfalso; omega)
               | (refine ⟨okR_isB hB, ?_⟩
                  omega)
             · have hlt2 : i0a < ((Sy.rows l).length : Int) := by omega
               first
               | (exfalso; omega)
               | (have hm := may_at hml (i := i0a.toNat) (by omega)
                  rw [getD_of (ints_at l (i := i0a.toNat) (by omega))] at hm
                  skip
                  omega))
         ·
          have wf4 := wr_i64 (i0a + 1)
          try simp only [hw3]
          refine ⟨?_, ?_⟩
          ·
           obtain ⟨q0, q1, q2⟩ := hi0
           have hw : IntKind.wrap .i64 (i0a + 1) = i0a + 1 := by have := wr_i64 (i0a + 1); omega
           rw [hw, toNat_succ (by omega)]
           refine ⟨by omega, by omega, eqV_iff.2 ?_⟩
           have hml : mayL b t (intsOf l) = true := by
             rcases k1 with ⟨_, x, _⟩ | ⟨_, _, x, _⟩
             · exact x
             · exfalso; omega
           have hm := may_at hml (i := i0a.toNat) (by omega)
           rw [getD_of (ints_at l (i := i0a.toNat) (by omega))] at hm
           rw [put_u64 _ (by omega) (by omega)]
           rw [eqV_iff.1 q2]
           exact encS (ints_at l (by omega))
          ·
           have := wr_i64 (i0a + 1)
           omega
       ·
        refine ⟨?_, fun h7 => ?_⟩
        ·
         first
         | omega
         | (obtain ⟨q0, q1, q2⟩ := hi0
            have q3 := eqV_iff.1 q2
            have hml : mayL b t (intsOf l) = true := by
              rcases k1 with ⟨_, x, _⟩ | ⟨_, _, x, _⟩
              · exact x
              · exfalso; omega
            have hb : (Sy.rows i0b).length = 17 + 8 * ((intsOf l).take i0a.toNat).length := by rw [q3, rows_arr]; exact enc_len ..
            have hT : ((intsOf l).take i0a.toNat).length ≤ 32 := by rw [List.length_take]; omega
            have hB : isB (Sy.rows i0b) := by rw [q3, rows_arr]; exact isB_enc _ _ _ _
            by_cases hlt : ¬ i0a < ((Sy.rows l).length : Int)
            · first
              | (exfalso; omega)
              | (refine ⟨okR_isB hB, ?_⟩
                 omega)
            · have hlt2 : i0a < ((Sy.rows l).length : Int) := by omega
              first
              | (exfalso; omega)
              | (have hm := may_at hml (i := i0a.toNat) (by omega)
                 rw [getD_of (ints_at l (i := i0a.toNat) (by omega))] at hm
                 skip
                 omega))
        ·
         obtain ⟨q0, q1, q2⟩ := hi0
         rcases k1 with ⟨E, M, x, V0, n⟩ | ⟨_, _, x, _⟩
         · have hl : (encB b t (intsOf l) (intsOf l).length).length ≤ 1024 := by rw [enc_len, List.take_length]; omega
           have hs : slE (encB b t (intsOf l) (intsOf l).length) 5 = 0 := by rcases sl_spec (encB b t (intsOf l) (intsOf l).length) 5 with h | h | h <;> omega
           rw [eqV_iff.1 q2, rows_arr, show i0a.toNat = (intsOf l).length by omega, E, V0, hs]
         · exfalso; omega
theorem ylg_renc : ylc_renc.Good Tryd.prog syG (ylE [] [] [] []) := good_of_walk (Γ := ⟨[yfc_rmay9, ylc_rput1, ylc_rput8, zb6c_rseal], syG, [], [], []⟩) (ρ := ylE [] [] [] []) sym renc_w rfl (fun _ _ _ _ => (ok_cons (Con.Good.env (Con.Good.up yfg_rmay9 ylup rfl) _ _ _ _) (ok_cons (Con.Good.env ylg_rput1 _ _ _ _) (ok_cons (Con.Good.env ylg_rput8 _ _ _ _) (ok_cons (Con.Good.env (Con.Good.up (Con.Good.up zb6g_rseal yfup rfl) ylup rfl) _ _ _ _) ok_nil))))) (fun b t l hc hty => renc_h b t l hc hty)
def ldec_tree : Tree :=
 (.need (an_ (.bapp 0 (.cons o0_ .nil)) (le_ (.ofI (.vop (.len 1) (.cons o0_ .nil))) (.lit 140737488355000)))
 (.br (.not (eq_ (.iapp 9 (.cons o0_ (.cons (.int .u8 (.lit 5)) .nil))) (.lit 0)))
 (.ret (.tup (.cons (.agg (.cons (.int .i64 (.lit 0)) (.cons (.int .i64 (.lit 0)) (.cons (.hs .no (.cons (.int .i64) .nil) (.tup .nil)) .nil)))) (.cons (.err (.iapp 9 (.cons o0_ (.cons (.int .u8 (.lit 5)) .nil)))) .nil))))
 (.need (.bapp 0 (.cons (.vapp 8 (.cons o0_ (.cons (.int .u8 (.lit 5)) .nil))) .nil))
 (.need (.bapp 0 (.cons (.vapp 8 (.cons o0_ (.cons (.int .u8 (.lit 5)) .nil))) .nil))
 (.need (.bapp 0 (.cons (.vapp 0 (.cons (.vapp 8 (.cons o0_ (.cons (.int .u8 (.lit 5)) .nil))) (.cons (.int .i64 (.lit 8)) .nil))) .nil))
 (.need (.bapp 0 (.cons (.vapp 0 (.cons (.vapp 0 (.cons (.vapp 8 (.cons o0_ (.cons (.int .u8 (.lit 5)) .nil))) (.cons (.int .i64 (.lit 8)) .nil))) (.cons (.int .i64 (.lit 8)) .nil))) .nil))
 (.loop ⟨1, 1, 2, 0⟩ (an_ (le_ (.lit 0) (.lit 0)) (an_ (le_ (.lit 0) (.iapp 0 (.cons (.vapp 0 (.cons (.vapp 0 (.cons (.vapp 8 (.cons o0_ (.cons (.int .u8 (.lit 5)) .nil))) (.cons (.int .i64 (.lit 8)) .nil))) (.cons (.int .i64 (.lit 8)) .nil))) (.cons (.int .i64 (.lit 1)) .nil)))) (an_ (.bapp 0 (.cons (.vapp 0 (.cons (.vapp 0 (.cons (.vapp 0 (.cons (.vapp 8 (.cons o0_ (.cons (.int .u8 (.lit 5)) .nil))) (.cons (.int .i64 (.lit 8)) .nil))) (.cons (.int .i64 (.lit 8)) .nil))) (.cons (.int .i64 (.lit 1)) .nil))) .nil)) (.bapp 5 (.cons (.tup .nil) (.cons (.vapp 0 (.cons (.vapp 0 (.cons (.vapp 0 (.cons (.vapp 8 (.cons o0_ (.cons (.int .u8 (.lit 5)) .nil))) (.cons (.int .i64 (.lit 8)) .nil))) (.cons (.int .i64 (.lit 8)) .nil))) (.cons (.int .i64 (.lit 1)) .nil))) (.cons (.bool (.bapp 1 (.cons (.vapp 0 (.cons (.vapp 0 (.cons (.vapp 8 (.cons o0_ (.cons (.int .u8 (.lit 5)) .nil))) (.cons (.int .i64 (.lit 8)) .nil))) (.cons (.int .i64 (.lit 8)) .nil))) (.cons (.bool (.bapp 1 (.cons (.vapp 0 (.cons (.vapp 8 (.cons o0_ (.cons (.int .u8 (.lit 5)) .nil))) (.cons (.int .i64 (.lit 8)) .nil))) (.cons (.bool (.bapp 1 (.cons (.vapp 8 (.cons o0_ (.cons (.int .u8 (.lit 5)) .nil))) (.cons (.bool (.tt false)) (.cons (.int .i64 (.lit 8)) .nil))))) (.cons (.int .i64 (.lit 8)) .nil))))) (.cons (.int .i64 (.lit 1)) .nil))))) (.cons o0_ (.cons (.int .i64 (.lit 0)) .nil))))))))) (an_ (le_ (.lit 0) v0_) (an_ (le_ v0_ (.iapp 0 (.cons (.vapp 0 (.cons (.vapp 0 (.cons (.vapp 8 (.cons o0_ (.cons (.int .u8 (.lit 5)) .nil))) (.cons (.int .i64 (.lit 8)) .nil))) (.cons (.int .i64 (.lit 8)) .nil))) (.cons (.int .i64 (.lit 1)) .nil)))) (an_ (.bapp 0 (.cons o2_ .nil)) (.bapp 5 (.cons o1_ (.cons o2_ (.cons (.bool (.bvar 0)) (.cons o0_ (.cons z0_ .nil)))))))))
 (.br (lt_ v0_ (wr_ (.iapp 0 (.cons (.vapp 0 (.cons (.vapp 0 (.cons (.vapp 8 (.cons o0_ (.cons (.int .u8 (.lit 5)) .nil))) (.cons (.int .i64 (.lit 8)) .nil))) (.cons (.int .i64 (.lit 8)) .nil))) (.cons (.int .i64 (.lit 1)) .nil)))))
 (.need (.bapp 0 (.cons o2_ .nil))
 (.need (le_ (ad_ (.ofI (.vop (.len 1) (.cons o1_ .nil))) (.lit 1)) (.lit 17592186044416))
 (.back (an_ (le_ (.lit 0) (wr_ (ad_ v0_ (.lit 1)))) (an_ (le_ (wr_ (ad_ v0_ (.lit 1))) (.iapp 0 (.cons (.vapp 0 (.cons (.vapp 0 (.cons (.vapp 8 (.cons o0_ (.cons (.int .u8 (.lit 5)) .nil))) (.cons (.int .i64 (.lit 8)) .nil))) (.cons (.int .i64 (.lit 8)) .nil))) (.cons (.int .i64 (.lit 1)) .nil)))) (an_ (.bapp 0 (.cons (.vapp 0 (.cons o2_ (.cons (.int .i64 (.lit 8)) .nil))) .nil)) (.bapp 5 (.cons (.vop .cat (.cons o1_ (.cons (.tup (.cons (.int .i64 (.iapp 1 (.cons o2_ .nil))) .nil)) .nil))) (.cons (.vapp 0 (.cons o2_ (.cons (.int .i64 (.lit 8)) .nil))) (.cons (.bool (.bapp 1 (.cons o2_ (.cons (.bool (.bvar 0)) (.cons (.int .i64 (.lit 8)) .nil))))) (.cons o0_ (.cons (.int .i64 (wr_ (ad_ v0_ (.lit 1)))) .nil))))))))) (sb_ (.iapp 0 (.cons (.vapp 0 (.cons (.vapp 0 (.cons (.vapp 8 (.cons o0_ (.cons (.int .u8 (.lit 5)) .nil))) (.cons (.int .i64 (.lit 8)) .nil))) (.cons (.int .i64 (.lit 8)) .nil))) (.cons (.int .i64 (.lit 1)) .nil))) (wr_ (ad_ v0_ (.lit 1)))) (sb_ (.iapp 0 (.cons (.vapp 0 (.cons (.vapp 0 (.cons (.vapp 8 (.cons o0_ (.cons (.int .u8 (.lit 5)) .nil))) (.cons (.int .i64 (.lit 8)) .nil))) (.cons (.int .i64 (.lit 8)) .nil))) (.cons (.int .i64 (.lit 1)) .nil))) v0_))))
 (.need (.bapp 0 (.cons o2_ .nil))
 (.br (.not (eq_ (.iapp 2 (.cons o2_ (.cons (.bool (.bvar 0)) .nil))) (.lit 0)))
 (.ret (.tup (.cons (.agg (.cons (.int .i64 (.lit 0)) (.cons (.int .i64 (.lit 0)) (.cons (.hs .no (.cons (.int .i64) .nil) (.tup .nil)) .nil)))) (.cons (.iface 182 (.int .i64 (.lit 3))) .nil))))
 (.br (.not (eq_ (.iapp 10 (.cons (.int .i64 (.iapp 1 (.cons (.vapp 8 (.cons o0_ (.cons (.int .u8 (.lit 5)) .nil))) .nil))) (.cons (.int .i64 (.iapp 1 (.cons (.vapp 0 (.cons (.vapp 8 (.cons o0_ (.cons (.int .u8 (.lit 5)) .nil))) (.cons (.int .i64 (.lit 8)) .nil))) .nil))) (.cons o1_ .nil)))) (.lit 0)))
 (.ret (.tup (.cons (.agg (.cons (.int .i64 (.lit 0)) (.cons (.int .i64 (.lit 0)) (.cons (.hs .no (.cons (.int .i64) .nil) (.tup .nil)) .nil)))) (.cons (.iface 182 (.int .i64 (.lit 3))) .nil))))
 (.ret (.tup (.cons (.agg (.cons (.int .i64 (.iapp 1 (.cons (.vapp 8 (.cons o0_ (.cons (.int .u8 (.lit 5)) .nil))) .nil))) (.cons (.int .i64 (.iapp 1 (.cons (.vapp 0 (.cons (.vapp 8 (.cons o0_ (.cons (.int .u8 (.lit 5)) .nil))) (.cons (.int .i64 (.lit 8)) .nil))) .nil))) (.cons (.hs .no (.cons (.int .i64) .nil) o1_) .nil)))) (.cons (.cst .nilI) .nil)))))))))))))))
abbrev ylc_ldec : Con := ⟨50, [(.hs .no (.cons (.int .u8) .nil) o0_)], (an_ (.bapp 0 (.cons o0_ .nil)) (le_ (.ofI (.vop (.len 1) (.cons o0_ .nil))) (.lit 4096))), (.tup (.cons (.agg (.cons (.int .i64 (.iapp 32 (.cons o0_ .nil))) (.cons (.int .i64 (.iapp 33 (.cons o0_ .nil))) (.cons (.hs .no (.cons (.int .i64) .nil) (.vapp 11 (.cons o0_ .nil))) .nil)))) (.cons (.err (.iapp 31 (.cons o0_ .nil))) .nil))), ⟨0, 0, 1, 0⟩, none⟩
theorem ldec_w : walk Tryd.prog 182 ⟨[zb6c_open, yfc_check], syG, [], [rc_i64, rc_u8, rc_done], [rc_new]⟩ [⟨0, ⟨1, 1, 2, 0⟩, [(27, z0_)], some [[(.int .i64 (.lit 0)), (.int .i64 (.lit 0)), (.cst .nilS)], [], [(.hs .no (.cons (.int .u8) .nil) o2_), (.bool (.bvar 0))], [(.int .i64 (.iapp 1 (.cons (.vapp 8 (.cons o0_ (.cons (.int .u8 (.lit 5)) .nil))) .nil))), (.int .i64 (.iapp 1 (.cons (.vapp 0 (.cons (.vapp 8 (.cons o0_ (.cons (.int .u8 (.lit 5)) .nil))) (.cons (.int .i64 (.lit 8)) .nil))) .nil))), (.hs (.id 1000 2) (.cons (.int .i64) .nil) o1_)]], (an_ (le_ (.lit 0) v0_) (an_ (le_ v0_ (.iapp 0 (.cons (.vapp 0 (.cons (.vapp 0 (.cons (.vapp 8 (.cons o0_ (.cons (.int .u8 (.lit 5)) .nil))) (.cons (.int .i64 (.lit 8)) .nil))) (.cons (.int .i64 (.lit 8)) .nil))) (.cons (.int .i64 (.lit 1)) .nil)))) (an_ (.bapp 0 (.cons o2_ .nil)) (.bapp 5 (.cons o1_ (.cons o2_ (.cons (.bool (.bvar 0)) (.cons o0_ (.cons z0_ .nil))))))))), (sb_ (.iapp 0 (.cons (.vapp 0 (.cons (.vapp 0 (.cons (.vapp 8 (.cons o0_ (.cons (.int .u8 (.lit 5)) .nil))) (.cons (.int .i64 (.lit 8)) .nil))) (.cons (.int .i64 (.lit 8)) .nil))) (.cons (.int .i64 (.lit 1)) .nil))) v0_), 1, []⟩] (.tup (.cons (.agg (.cons .v (.cons .v (.cons (.s (.cons (.int .i64) .nil)) .nil)))) (.cons .v .nil))) ylc_ldec ylc_ldec.n 3000 = some ldec_tree := by kernel_rfl
theorem ldec_h (c : Value) (hc : holds (ylE [] [] [c] []) (an_ (.bapp 0 (.cons o0_ .nil)) (le_ (.ofI (.vop (.len 1) (.cons o0_ .nil))) (.lit 4096)))) (hty : patsTyp (ylE [] [] [c] []) [(.hs .no (.cons (.int .u8) .nil) o0_)]) : ldec_tree.holds (fun v_ => v_ = denV (ylE [] [] [c] []) b0 (.tup (.cons (.agg (.cons (.int .i64 (.iapp 32 (.cons o0_ .nil))) (.cons (.int .i64 (.iapp 33 (.cons o0_ .nil))) (.cons (.hs .no (.cons (.int .i64) .nil) (.vapp 11 (.cons o0_ .nil))) .nil)))) (.cons (.err (.iapp 31 (.cons o0_ .nil))) .nil)))) (ylE [] [] [c] []) := by
  simp only [Tree.holds, Sy.holds, AllN, Env.more, ylE, List.cons_append, List.nil_append, List.append_nil, denV, denI, denB, denL, I2.den, VOp.den, List.getD_cons_zero, List.getD_cons_succ, Cst.den, syso, syse, syio, sybo, ylb_okr, List.map_nil, List.map_cons, B2.ofInts, B2.denI, B2.denB, if_true, Bool.false_eq_true, if_false, Nat.div_one, Nat.mul_one, Nat.add_zero, holds] at hc
  simp only [patsTyp, patTyp, patTypL, ylE, denV, denL, List.getD_cons_zero, List.getD_cons_succ, and_true, true_and] at hty
  have hL_c : typ (.sl (.cons (.int .u8) .nil)) c := by first | exact hty | exact hty.1 | exact hty.2 | exact hty.1.1 | exact hty.1.2 | exact hty.2.1 | exact hty.2.2 | exact hty.2.2.1 | exact hty.2.2.2
  have hN_c := typ_len (n := 1) hL_c rfl (by omega)
  simp only [Nat.div_one, Nat.mul_one] at hN_c
  unfold ldec_tree
  simp only [Tree.holds, Sy.holds, AllN, Env.more, ylE, List.cons_append, List.nil_append, List.append_nil, denV, denI, denB, denL, I2.den, VOp.den, List.getD_cons_zero, List.getD_cons_succ, Cst.den, syso, syse, syio, sybo, yli_rn, yli_ri, yli_dn, yli_ble, yli_may, yli_dce, yli_dcb, yli_dct, ylb_okr, ylb_rs, ylb_dst, ylv_rl, ylv_blv, ylv_dcl, List.map_nil, List.map_cons, B2.ofInts, B2.denI, B2.denB, if_true, Bool.false_eq_true, if_false, Nat.div_one, Nat.mul_one, Nat.add_zero]
  have hB := blV_isB (isB_typ hty hc.1) 5
  have s1 := dc_spec (Sy.rows c)
  have n1 := hdN_lt (bx (Sy.rows c))
  simp only [rl_eq, bx_def, t8, t1, hdN_def, hdN_wr]
  refine ⟨?_, fun h0 => ?_⟩
  ·
   first
   | exact okR_isB hB
   | exact okR_rl _
   | exact ⟨hc.1, by omega⟩
   | omega
  ·
   refine ⟨fun h1 => ?_, fun h1 => ?_⟩
   ·
    rcases s1 with ⟨E, x, B0, T0, L0⟩ | ⟨x, _⟩ | ⟨x, _⟩
    · rw [E, B0, T0, L0]
    · exfalso; omega
    · exfalso; omega
   ·
    refine ⟨?_, fun h2 => ?_⟩
    ·
     first
     | exact okR_isB hB
     | exact okR_rl _
     | exact ⟨hc.1, by omega⟩
     | omega
    ·
     refine ⟨?_, fun h3 => ?_⟩
     ·
      first
      | exact okR_isB hB
      | exact okR_rl _
      | exact ⟨hc.1, by omega⟩
      | omega
     ·
      refine ⟨?_, fun h4 => ?_⟩
      ·
       first
       | exact okR_isB hB
       | exact okR_rl _
       | exact ⟨hc.1, by omega⟩
       | omega
      ·
       refine ⟨?_, fun h5 => ?_⟩
       ·
        first
        | exact okR_isB hB
        | exact okR_rl _
        | exact ⟨hc.1, by omega⟩
        | omega
       ·
        refine ⟨?_, ?_⟩
        ·
         exact ⟨by omega, by omega, okR_rl _, dst_iff.2 ⟨rfl, rfl, rfl⟩⟩
        ·
         intro i0a i0b i0c i0d hi0
         refine ⟨fun h6 => ?_, fun h6 => ?_⟩
         ·
          refine ⟨?_, fun h7 => ?_⟩
          ·
           first
           | omega
           | exact hi0.2.2.1
           | (have hd := dst_iff.1 hi0.2.2.2
              rw [hd.1, rowsI_rows, List.length_map, numsX_len]
              omega)
          ·
           refine ⟨?_, fun h8 => ?_⟩
           ·
            first
            | omega
            | exact hi0.2.2.1
            | (have hd := dst_iff.1 hi0.2.2.2
               rw [hd.1, rowsI_rows, List.length_map, numsX_len]
               omega)
           ·
            refine ⟨?_, ?_⟩
            ·
             obtain ⟨q0, q1, q2, q3⟩ := hi0
             obtain ⟨d1, d2, d3⟩ := dst_iff.1 q3
             have hw : IntKind.wrap .i64 (i0a + 1) = i0a + 1 := by have := wr_i64 (i0a + 1); omega
             rw [hw, toNat_succ (by omega)]
             refine ⟨by omega, by omega, okR_rl _, dst_iff.2 ⟨?_, ?_, ?_⟩⟩
             · rw [d1, d2, rl_eq]
               exact rowsI_snoc _ _
             · rw [d2, rl_eq]
               rfl
             · rw [d2, d3, rl_eq]
               rfl
            ·
             have := wr_i64 (i0a + 1)
             omega
         ·
          refine ⟨?_, fun h9 => ?_⟩
          ·
           first
           | omega
           | exact hi0.2.2.1
           | (have hd := dst_iff.1 hi0.2.2.2
              rw [hd.1, rowsI_rows, List.length_map, numsX_len]
              omega)
          ·
           refine ⟨fun h10 => ?_, fun h10 => ?_⟩
           ·
            obtain ⟨q0, q1, q2, q3⟩ := hi0
            have hj : i0a.toNat = hdN (bx (Sy.rows c)) := by omega
            rw [hj] at q3
            obtain ⟨d1, d2, d3⟩ := dst_iff.1 q3
            have hM : mayI (rdI (bx (Sy.rows c))) (rdI (getL (bx (Sy.rows c)) 8)) (intsOf i0c) = mayI (hdBs (bx (Sy.rows c))) (hdT (bx (Sy.rows c))) (numsX (bx (Sy.rows c)) (hdN (bx (Sy.rows c)))) := by rw [d1, ints_rowsI]; rfl
            have hD : dnE (byL (Sy.rows i0d)) i0b = if (bx (Sy.rows c)).length = 17 + 8 * hdN (bx (Sy.rows c)) then 0 else 3 := by rw [d2, d3, rl_eq]; exact done_rest _
            have hD2 : (dnE (byL (Sy.rows i0d)) i0b = 0 ∧ (bx (Sy.rows c)).length = 17 + 8 * hdN (bx (Sy.rows c))) ∨ (dnE (byL (Sy.rows i0d)) i0b = 3 ∧ (bx (Sy.rows c)).length ≠ 17 + 8 * hdN (bx (Sy.rows c))) := by
              rw [hD]
              by_cases hl : (bx (Sy.rows c)).length = 17 + 8 * hdN (bx (Sy.rows c))
              · rw [if_pos hl]; exact .inl ⟨rfl, hl⟩
              · rw [if_neg hl]; exact .inr ⟨rfl, hl⟩
            clear hD
            rcases s1 with ⟨_, x, _⟩ | ⟨x, E, r, B0, T0, L0⟩ | ⟨x, E, hl, hm, B0, T0, L0⟩
            · exfalso; omega
            · first
              | (exfalso; omega)
              | (rw [E, B0, T0, L0]
                 rfl)
            · first
              | (exfalso; omega)
              | (rw [E, B0, T0, L0, d1]
                 rfl)
           ·
            refine ⟨fun h11 => ?_, fun h11 => ?_⟩
            ·
             obtain ⟨q0, q1, q2, q3⟩ := hi0
             have hj : i0a.toNat = hdN (bx (Sy.rows c)) := by omega
             rw [hj] at q3
             obtain ⟨d1, d2, d3⟩ := dst_iff.1 q3
             have hM : mayI (rdI (bx (Sy.rows c))) (rdI (getL (bx (Sy.rows c)) 8)) (intsOf i0c) = mayI (hdBs (bx (Sy.rows c))) (hdT (bx (Sy.rows c))) (numsX (bx (Sy.rows c)) (hdN (bx (Sy.rows c)))) := by rw [d1, ints_rowsI]; rfl
             have hD : dnE (byL (Sy.rows i0d)) i0b = if (bx (Sy.rows c)).length = 17 + 8 * hdN (bx (Sy.rows c)) then 0 else 3 := by rw [d2, d3, rl_eq]; exact done_rest _
             have hD2 : (dnE (byL (Sy.rows i0d)) i0b = 0 ∧ (bx (Sy.rows c)).length = 17 + 8 * hdN (bx (Sy.rows c))) ∨ (dnE (byL (Sy.rows i0d)) i0b = 3 ∧ (bx (Sy.rows c)).length ≠ 17 + 8 * hdN (bx (Sy.rows c))) := by
               rw [hD]
               by_cases hl : (bx (Sy.rows c)).length = 17 + 8 * hdN (bx (Sy.rows c))
               · rw [if_pos hl]; exact .inl ⟨rfl, hl⟩
               · rw [if_neg hl]; exact .inr ⟨rfl, hl⟩
             clear hD
             rcases s1 with ⟨_, x, _⟩ | ⟨x, E, r, B0, T0, L0⟩ | ⟨x, E, hl, hm, B0, T0, L0⟩
             · exfalso; omega
             · first
               | (exfalso; omega)
               | (rw [E, B0, T0, L0]
                  rfl)
             · first
               | (exfalso; omega)
               | (rw [E, B0, T0, L0, d1]
                  rfl)
            ·
             obtain ⟨q0, q1, q2, q3⟩ := hi0
             have hj : i0a.toNat = hdN (bx (Sy.rows c)) := by omega
             rw [hj] at q3
             obtain ⟨d1, d2, d3⟩ := dst_iff.1 q3
             have hM : mayI (rdI (bx (Sy.rows c))) (rdI (getL (bx (Sy.rows c)) 8)) (intsOf i0c) = mayI (hdBs (bx (Sy.rows c))) (hdT (bx (Sy.rows c))) (numsX (bx (Sy.rows c)) (hdN (bx (Sy.rows c)))) := by rw [d1, ints_rowsI]; rfl
             have hD : dnE (byL (Sy.rows i0d)) i0b = if (bx (Sy.rows c)).length = 17 + 8 * hdN (bx (Sy.rows c)) then 0 else 3 := by rw [d2, d3, rl_eq]; exact done_rest _
             have hD2 : (dnE (byL (Sy.rows i0d)) i0b = 0 ∧ (bx (Sy.rows c)).length = 17 + 8 * hdN (bx (Sy.rows c))) ∨ (dnE (byL (Sy.rows i0d)) i0b = 3 ∧ (bx (Sy.rows c)).length ≠ 17 + 8 * hdN (bx (Sy.rows c))) := by
               rw [hD]
               by_cases hl : (bx (Sy.rows c)).length = 17 + 8 * hdN (bx (Sy.rows c))
               · rw [if_pos hl]; exact .inl ⟨rfl, hl⟩
               · rw [if_neg hl]; exact .inr ⟨rfl, hl⟩
             clear hD
             rcases s1 with ⟨_, x, _⟩ | ⟨x, E, r, B0, T0, L0⟩ | ⟨x, E, hl, hm, B0, T0, L0⟩
             · exfalso; omega
             · first
               | (exfalso; omega)
               | (rw [E, B0, T0, L0]
                  rfl)
             · first
               | (exfalso; omega)
               | (rw [E, B0, T0, L0, d1]
                  rfl)
theorem ylg_ldec : ylc_ldec.Good Tryd.prog syG (ylE [] [] [] []) := good_of_walk (Γ := ⟨[zb6c_open, yfc_check], syG, [], [rc_i64, rc_u8, rc_done], [rc_new]⟩) (ρ := ylE [] [] [] []) sym ldec_w rfl (fun _ _ _ _ => (ok_cons (Con.Good.env (Con.Good.up (Con.Good.up zb6g_open yfup rfl) ylup rfl) _ _ _ _) (ok_cons (Con.Good.env (Con.Good.up yfg_check ylup rfl) _ _ _ _) (ok_mcons (MCon.Good.env (MCon.Good.up (MCon.Good.up (MCon.Good.up (MCon.Good.up rg_i64 z6up rfl) zb6up rfl) yfup rfl) ylup rfl) _ _ _ _) (ok_mcons (MCon.Good.env (MCon.Good.up (MCon.Good.up (MCon.Good.up (MCon.Good.up rg_u8 z6up rfl) zb6up rfl) yfup rfl) ylup rfl) _ _ _ _) (ok_mcons (MCon.Good.env (MCon.Good.up (MCon.Good.up (MCon.Good.up (MCon.Good.up rg_done z6up rfl) zb6up rfl) yfup rfl) ylup rfl) _ _ _ _) (ok_acons (ACon.Good.env (ACon.Good.up (ACon.Good.up (ACon.Good.up (ACon.Good.up rg_new z6up rfl) zb6up rfl) yfup rfl) ylup rfl) _ _ _ _) ok_nil))))))) (fun c hc hty => ldec_h c hc hty)
def rtake8_tree : Tree :=
 (.br (.bvar 0)
 (.ret (.tup (.cons (.agg (.cons (.hs .no (.cons (.int .u8) .nil) (.tup .nil)) (.cons (.bool (.tt true)) .nil))) (.cons (.int .u64 (.lit 0)) .nil))))
 (.br (lt_ (.ofI (.vop (.len 1) (.cons o0_ .nil))) (.lit 8))
 (.ret (.tup (.cons (.agg (.cons (.hs .no (.cons (.int .u8) .nil) (.tup .nil)) (.cons (.bool (.tt true)) .nil))) (.cons (.int .u64 (.lit 0)) .nil))))
 (.need (lt_ (.lit 7) (.ofI (.vop (.len 1) (.cons o0_ .nil))))
 (.need (lt_ (.lit 6) (.ofI (.vop (.len 1) (.cons o0_ .nil))))
 (.need (lt_ (.lit 5) (.ofI (.vop (.len 1) (.cons o0_ .nil))))
 (.need (lt_ (.lit 4) (.ofI (.vop (.len 1) (.cons o0_ .nil))))
 (.need (lt_ (.lit 3) (.ofI (.vop (.len 1) (.cons o0_ .nil))))
 (.need (lt_ (.lit 2) (.ofI (.vop (.len 1) (.cons o0_ .nil))))
 (.need (lt_ (.lit 1) (.ofI (.vop (.len 1) (.cons o0_ .nil))))
 (.need (lt_ (.lit 0) (.ofI (.vop (.len 1) (.cons o0_ .nil))))
 (.need (le_ (.lit 8) (.ofI (.vop (.len 1) (.cons o0_ .nil))))
 (.ret (.tup (.cons (.agg (.cons (.hs .no (.cons (.int .u8) .nil) (.vop (.sub 1) (.cons o0_ (.cons (.int .i64 (.lit 8)) (.cons (.int .i64 (.ofI (.vop (.len 1) (.cons o0_ .nil)))) .nil))))) (.cons (.bool (.tt false)) .nil))) (.cons (.int .u64 (.wrap .u64 (ad_ (.wrap .u64 (ml_ (.lit 256) (.wrap .u64 (ad_ (.wrap .u64 (ml_ (.lit 256) (.wrap .u64 (ad_ (.wrap .u64 (ml_ (.lit 256) (.wrap .u64 (ad_ (.wrap .u64 (ml_ (.lit 256) (.wrap .u64 (ad_ (.wrap .u64 (ml_ (.lit 256) (.wrap .u64 (ad_ (.wrap .u64 (ml_ (.lit 256) (.wrap .u64 (ad_ (.wrap .u64 (ml_ (.lit 256) (.wrap .u64 (ad_ (.lit 0) (.wrap .u64 (.ofI (.vop (.sel 1 0) (.cons o0_ (.cons (.int .i64 (.lit 7)) .nil))))))))) (.wrap .u64 (.ofI (.vop (.sel 1 0) (.cons o0_ (.cons (.int .i64 (.lit 6)) .nil))))))))) (.wrap .u64 (.ofI (.vop (.sel 1 0) (.cons o0_ (.cons (.int .i64 (.lit 5)) .nil))))))))) (.wrap .u64 (.ofI (.vop (.sel 1 0) (.cons o0_ (.cons (.int .i64 (.lit 4)) .nil))))))))) (.wrap .u64 (.ofI (.vop (.sel 1 0) (.cons o0_ (.cons (.int .i64 (.lit 3)) .nil))))))))) (.wrap .u64 (.ofI (.vop (.sel 1 0) (.cons o0_ (.cons (.int .i64 (.lit 2)) .nil))))))))) (.wrap .u64 (.ofI (.vop (.sel 1 0) (.cons o0_ (.cons (.int .i64 (.lit 1)) .nil))))))))) (.wrap .u64 (.ofI (.vop (.sel 1 0) (.cons o0_ (.cons (.int .i64 (.lit 0)) .nil)))))))) .nil)))))))))))))))
abbrev ylc_rtake8 : Con := ⟨140, [(.agg (.cons (.hs .no (.cons (.int .u8) .nil) o0_) (.cons (.bool (.bvar 0)) .nil))), (.int .i64 (.lit 8))], (an_ (.bapp 0 (.cons o0_ .nil)) (.not (.bvar 0))), (.tup (.cons (.agg (.cons (.hs .no (.cons (.int .u8) .nil) (.vapp 0 (.cons o0_ (.cons (.int .i64 (.lit 8)) .nil)))) (.cons (.bool (.bapp 1 (.cons o0_ (.cons (.bool (.bvar 0)) (.cons (.int .i64 (.lit 8)) .nil))))) .nil))) (.cons (.int .u64 (.iapp 0 (.cons o0_ (.cons (.int .i64 (.lit 8)) .nil)))) .nil))), ⟨0, 1, 1, 0⟩, none⟩
theorem rtake8_w : walk Tryd.prog 182 ⟨[], syG, [], [], []⟩ [] (.tup (.cons (.agg (.cons (.s (.cons (.int .u8) .nil)) (.cons .v .nil))) (.cons .v .nil))) ylc_rtake8 ylc_rtake8.n 3000 = some rtake8_tree := by kernel_rfl
theorem rtake8_h (s : Bool) (l : Value) (hc : holds (ylE [] [s] [l] []) (an_ (.bapp 0 (.cons o0_ .nil)) (.not (.bvar 0)))) (hty : patsTyp (ylE [] [s] [l] []) [(.agg (.cons (.hs .no (.cons (.int .u8) .nil) o0_) (.cons (.bool (.bvar 0)) .nil))), (.int .i64 (.lit 8))]) : rtake8_tree.holds (fun v_ => v_ = denV (ylE [] [s] [l] []) b0 (.tup (.cons (.agg (.cons (.hs .no (.cons (.int .u8) .nil) (.vapp 0 (.cons o0_ (.cons (.int .i64 (.lit 8)) .nil)))) (.cons (.bool (.bapp 1 (.cons o0_ (.cons (.bool (.bvar 0)) (.cons (.int .i64 (.lit 8)) .nil))))) .nil))) (.cons (.int .u64 (.iapp 0 (.cons o0_ (.cons (.int .i64 (.lit 8)) .nil)))) .nil)))) (ylE [] [s] [l] []) := by
  simp only [Tree.holds, Sy.holds, AllN, Env.more, ylE, List.cons_append, List.nil_append, List.append_nil, denV, denI, denB, denL, I2.den, VOp.den, List.getD_cons_zero, List.getD_cons_succ, Cst.den, syso, syse, syio, sybo, ylb_okr, List.map_nil, List.map_cons, B2.ofInts, B2.denI, B2.denB, if_true, Bool.false_eq_true, if_false, Nat.div_one, Nat.mul_one, Nat.add_zero, holds] at hc
  simp only [patsTyp, patTyp, patTypL, ylE, denV, denL, List.getD_cons_zero, List.getD_cons_succ, and_true, true_and] at hty
  have hL_l : typ (.sl (.cons (.int .u8) .nil)) l := by first | exact hty | exact hty.1 | exact hty.2 | exact hty.1.1 | exact hty.1.2 | exact hty.2.1 | exact hty.2.2 | exact hty.2.2.1 | exact hty.2.2.2
  have hN_l := typ_len (n := 1) hL_l rfl (by omega)
  simp only [Nat.div_one, Nat.mul_one] at hN_l
  unfold rtake8_tree
  simp only [Tree.holds, Sy.holds, AllN, Env.more, ylE, List.cons_append, List.nil_append, List.append_nil, denV, denI, denB, denL, I2.den, VOp.den, List.getD_cons_zero, List.getD_cons_succ, Cst.den, syso, syse, syio, sybo, yli_rn, ylb_rs, ylv_rl, List.map_nil, List.map_cons, B2.ofInts, B2.denI, B2.denB, if_true, Bool.false_eq_true, if_false, Nat.div_one, Nat.mul_one, Nat.add_zero]
  have hl := byL_len (Sy.rows l)
  have hB := isB_typ hty hc.1
  refine ⟨fun h0 => ?_, fun h0 => ?_⟩
  ·
   first
   | (exfalso; exact hc.2 h0)
   | (
      simp only [t8, t1, getL, getS, getV, if_neg (show ¬ 8 ≤ (byL (Sy.rows l)).length by omega)]
      rfl)
   | (
      have hs : s = false := by cases s; rfl; exact absurd rfl hc.2
      have e1 := getL_map hB (k := 8) (by omega)
      have e3 := take8_val hB (by omega)
      have b0 := gB_rng hB (j := 0) (by omega)
      have g0 : Go.RowKit.intOf ((Sy.rows l).getD (Int.toNat 0) Go.undef) = gB (Sy.rows l) 0 := rfl
      have u0 : IntKind.wrap .u64 (gB (Sy.rows l) 0) = gB (Sy.rows l) 0 := by rw [wrap_u64]; omega
      have b1 := gB_rng hB (j := 1) (by omega)
      have g1 : Go.RowKit.intOf ((Sy.rows l).getD (Int.toNat 1) Go.undef) = gB (Sy.rows l) 1 := rfl
      have u1 : IntKind.wrap .u64 (gB (Sy.rows l) 1) = gB (Sy.rows l) 1 := by rw [wrap_u64]; omega
      have b2 := gB_rng hB (j := 2) (by omega)
      have g2 : Go.RowKit.intOf ((Sy.rows l).getD (Int.toNat 2) Go.undef) = gB (Sy.rows l) 2 := rfl
      have u2 : IntKind.wrap .u64 (gB (Sy.rows l) 2) = gB (Sy.rows l) 2 := by rw [wrap_u64]; omega
      have b3 := gB_rng hB (j := 3) (by omega)
      have g3 : Go.RowKit.intOf ((Sy.rows l).getD (Int.toNat 3) Go.undef) = gB (Sy.rows l) 3 := rfl
      have u3 : IntKind.wrap .u64 (gB (Sy.rows l) 3) = gB (Sy.rows l) 3 := by rw [wrap_u64]; omega
      have b4 := gB_rng hB (j := 4) (by omega)
      have g4 : Go.RowKit.intOf ((Sy.rows l).getD (Int.toNat 4) Go.undef) = gB (Sy.rows l) 4 := rfl
      have u4 : IntKind.wrap .u64 (gB (Sy.rows l) 4) = gB (Sy.rows l) 4 := by rw [wrap_u64]; omega
      have b5 := gB_rng hB (j := 5) (by omega)
      have g5 : Go.RowKit.intOf ((Sy.rows l).getD (Int.toNat 5) Go.undef) = gB (Sy.rows l) 5 := rfl
      have u5 : IntKind.wrap .u64 (gB (Sy.rows l) 5) = gB (Sy.rows l) 5 := by rw [wrap_u64]; omega
      have b6 := gB_rng hB (j := 6) (by omega)
      have g6 : Go.RowKit.intOf ((Sy.rows l).getD (Int.toNat 6) Go.undef) = gB (Sy.rows l) 6 := rfl
      have u6 : IntKind.wrap .u64 (gB (Sy.rows l) 6) = gB (Sy.rows l) 6 := by rw [wrap_u64]; omega
      have b7 := gB_rng hB (j := 7) (by omega)
      have g7 : Go.RowKit.intOf ((Sy.rows l).getD (Int.toNat 7) Go.undef) = gB (Sy.rows l) 7 := rfl
      have u7 : IntKind.wrap .u64 (gB (Sy.rows l) 7) = gB (Sy.rows l) 7 := by rw [wrap_u64]; omega
      simp only [g0, g1, g2, g3, g4, g5, g6, g7, u0, u1, u2, u3, u4, u5, u6, u7, t8, Int.toNat_natCast, List.take_length]
      rw [e1, e3, hs]
      have eS : getS (byL (Sy.rows l)) false 8 = false := by unfold getS; rw [if_pos (by omega)]
      rw [eS]
      obtain ⟨y7, hy7⟩ : ∃ y, y = gB (Sy.rows l) 7 := ⟨_, rfl⟩
      have r7 : 0 ≤ y7 ∧ y7 ≤ 255 := by omega
      have c7 : IntKind.wrap .u64 (0 + gB (Sy.rows l) 7) = y7 := by rw [wrap_u64]; omega
      simp only [c7]
      obtain ⟨y6, hy6⟩ : ∃ y, y = 256 * y7 + gB (Sy.rows l) 6 := ⟨_, rfl⟩
      have r6 : 0 ≤ y6 ∧ y6 ≤ 65535 := by omega
      have c6 : IntKind.wrap .u64 (IntKind.wrap .u64 (256 * y7) + gB (Sy.rows l) 6) = y6 := by rw [wrap_u64, wrap_u64]; omega
      simp only [c6]
      obtain ⟨y5, hy5⟩ : ∃ y, y = 256 * y6 + gB (Sy.rows l) 5 := ⟨_, rfl⟩
      have r5 : 0 ≤ y5 ∧ y5 ≤ 16777215 := by omega
      have c5 : IntKind.wrap .u64 (IntKind.wrap .u64 (256 * y6) + gB (Sy.rows l) 5) = y5 := by rw [wrap_u64, wrap_u64]; omega
      simp only [c5]
      obtain ⟨y4, hy4⟩ : ∃ y, y = 256 * y5 + gB (Sy.rows l) 4 := ⟨_, rfl⟩
      have r4 : 0 ≤ y4 ∧ y4 ≤ 4294967295 := by omega
      have c4 : IntKind.wrap .u64 (IntKind.wrap .u64 (256 * y5) + gB (Sy.rows l) 4) = y4 := by rw [wrap_u64, wrap_u64]; omega
      simp only [c4]
      obtain ⟨y3, hy3⟩ : ∃ y, y = 256 * y4 + gB (Sy.rows l) 3 := ⟨_, rfl⟩
      have r3 : 0 ≤ y3 ∧ y3 ≤ 1099511627775 := by omega
      have c3 : IntKind.wrap .u64 (IntKind.wrap .u64 (256 * y4) + gB (Sy.rows l) 3) = y3 := by rw [wrap_u64, wrap_u64]; omega
      simp only [c3]
      obtain ⟨y2, hy2⟩ : ∃ y, y = 256 * y3 + gB (Sy.rows l) 2 := ⟨_, rfl⟩
      have r2 : 0 ≤ y2 ∧ y2 ≤ 281474976710655 := by omega
      have c2 : IntKind.wrap .u64 (IntKind.wrap .u64 (256 * y3) + gB (Sy.rows l) 2) = y2 := by rw [wrap_u64, wrap_u64]; omega
      simp only [c2]
      obtain ⟨y1, hy1⟩ : ∃ y, y = 256 * y2 + gB (Sy.rows l) 1 := ⟨_, rfl⟩
      have r1 : 0 ≤ y1 ∧ y1 ≤ 72057594037927935 := by omega
      have c1 : IntKind.wrap .u64 (IntKind.wrap .u64 (256 * y2) + gB (Sy.rows l) 1) = y1 := by rw [wrap_u64, wrap_u64]; omega
      simp only [c1]
      obtain ⟨y0, hy0⟩ : ∃ y, y = 256 * y1 + gB (Sy.rows l) 0 := ⟨_, rfl⟩
      have r0 : 0 ≤ y0 ∧ y0 ≤ 18446744073709551615 := by omega
      have c0 : IntKind.wrap .u64 (IntKind.wrap .u64 (256 * y1) + gB (Sy.rows l) 0) = y0 := by rw [wrap_u64, wrap_u64]; omega
      simp only [c0]
      have hf : y0 = gB (Sy.rows l) 0 + 256 * (gB (Sy.rows l) 1 + 256 * (gB (Sy.rows l) 2 + 256 * (gB (Sy.rows l) 3 + 256 * (gB (Sy.rows l) 4 + 256 * (gB (Sy.rows l) 5 + 256 * (gB (Sy.rows l) 6 + 256 * (gB (Sy.rows l) 7))))))) := by omega
      rw [hf])
  ·
   refine ⟨fun h1 => ?_, fun h1 => ?_⟩
   ·
    first
    | (exfalso; exact hc.2 h0)
    | (
       simp only [t8, t1, getL, getS, getV, if_neg (show ¬ 8 ≤ (byL (Sy.rows l)).length by omega)]
       rfl)
    | (
       have hs : s = false := by cases s; rfl; exact absurd rfl hc.2
       have e1 := getL_map hB (k := 8) (by omega)
       have e3 := take8_val hB (by omega)
       have b0 := gB_rng hB (j := 0) (by omega)
       have g0 : Go.RowKit.intOf ((Sy.rows l).getD (Int.toNat 0) Go.undef) = gB (Sy.rows l) 0 := rfl
       have u0 : IntKind.wrap .u64 (gB (Sy.rows l) 0) = gB (Sy.rows l) 0 := by rw [wrap_u64]; omega
       have b1 := gB_rng hB (j := 1) (by omega)
       have g1 : Go.RowKit.intOf ((Sy.rows l).getD (Int.toNat 1) Go.undef) = gB (Sy.rows l) 1 := rfl
       have u1 : IntKind.wrap .u64 (gB (Sy.rows l) 1) = gB (Sy.rows l) 1 := by rw [wrap_u64]; omega
       have b2 := gB_rng hB (j := 2) (by omega)
       have g2 : Go.RowKit.intOf ((Sy.rows l).getD (Int.toNat 2) Go.undef) = gB (Sy.rows l) 2 := rfl
       have u2 : IntKind.wrap .u64 (gB (Sy.rows l) 2) = gB (Sy.rows l) 2 := by rw [wrap_u64]; omega
       have b3 := gB_rng hB (j := 3) (by omega)
       have g3 : Go.RowKit.intOf ((Sy.rows l).getD (Int.toNat 3) Go.undef) = gB (Sy.rows l) 3 := rfl
       have u3 : IntKind.wrap .u64 (gB (Sy.rows l) 3) = gB (Sy.rows l) 3 := by rw [wrap_u64]; omega
       have b4 := gB_rng hB (j := 4) (by omega)
       have g4 : Go.RowKit.intOf ((Sy.rows l).getD (Int.toNat 4) Go.undef) = gB (Sy.rows l) 4 := rfl
       have u4 : IntKind.wrap .u64 (gB (Sy.rows l) 4) = gB (Sy.rows l) 4 := by rw [wrap_u64]; omega
       have b5 := gB_rng hB (j := 5) (by omega)
       have g5 : Go.RowKit.intOf ((Sy.rows l).getD (Int.toNat 5) Go.undef) = gB (Sy.rows l) 5 := rfl
       have u5 : IntKind.wrap .u64 (gB (Sy.rows l) 5) = gB (Sy.rows l) 5 := by rw [wrap_u64]; omega
       have b6 := gB_rng hB (j := 6) (by omega)
       have g6 : Go.RowKit.intOf ((Sy.rows l).getD (Int.toNat 6) Go.undef) = gB (Sy.rows l) 6 := rfl
       have u6 : IntKind.wrap .u64 (gB (Sy.rows l) 6) = gB (Sy.rows l) 6 := by rw [wrap_u64]; omega
       have b7 := gB_rng hB (j := 7) (by omega)
       have g7 : Go.RowKit.intOf ((Sy.rows l).getD (Int.toNat 7) Go.undef) = gB (Sy.rows l) 7 := rfl
       have u7 : IntKind.wrap .u64 (gB (Sy.rows l) 7) = gB (Sy.rows l) 7 := by rw [wrap_u64]; omega
       simp only [g0, g1, g2, g3, g4, g5, g6, g7, u0, u1, u2, u3, u4, u5, u6, u7, t8, Int.toNat_natCast, List.take_length]
       rw [e1, e3, hs]
       have eS : getS (byL (Sy.rows l)) false 8 = false := by unfold getS; rw [if_pos (by omega)]
       rw [eS]
       obtain ⟨y7, hy7⟩ : ∃ y, y = gB (Sy.rows l) 7 := ⟨_, rfl⟩
       have r7 : 0 ≤ y7 ∧ y7 ≤ 255 := by omega
       have c7 : IntKind.wrap .u64 (0 + gB (Sy.rows l) 7) = y7 := by rw [wrap_u64]; omega
       simp only [c7]
       obtain ⟨y6, hy6⟩ : ∃ y, y = 256 * y7 + gB (Sy.rows l) 6 := ⟨_, rfl⟩
       have r6 : 0 ≤ y6 ∧ y6 ≤ 65535 := by omega
       have c6 : IntKind.wrap .u64 (IntKind.wrap .u64 (256 * y7) + gB (Sy.rows l) 6) = y6 := by rw [wrap_u64, wrap_u64]; omega
       simp only [c6]
       obtain ⟨y5, hy5⟩ : ∃ y, y = 256 * y6 + gB (Sy.rows l) 5 := ⟨_, rfl⟩
       have r5 : 0 ≤ y5 ∧ y5 ≤ 16777215 := by omega
       have c5 : IntKind.wrap .u64 (IntKind.wrap .u64 (256 * y6) + gB (Sy.rows l) 5) = y5 := by rw [wrap_u64, wrap_u64]; omega
       simp only [c5]
       obtain ⟨y4, hy4⟩ : ∃ y, y = 256 * y5 + gB (Sy.rows l) 4 := ⟨_, rfl⟩
       have r4 : 0 ≤ y4 ∧ y4 ≤ 4294967295 := by omega
       have c4 : IntKind.wrap .u64 (IntKind.wrap .u64 (256 * y5) + gB (Sy.rows l) 4) = y4 := by rw [wrap_u64, wrap_u64]; omega
       simp only [c4]
       obtain ⟨y3, hy3⟩ : ∃ y, y = 256 * y4 + gB (Sy.rows l) 3 := ⟨_, rfl⟩
       have r3 : 0 ≤ y3 ∧ y3 ≤ 1099511627775 := by omega
       have c3 : IntKind.wrap .u64 (IntKind.wrap .u64 (256 * y4) + gB (Sy.rows l) 3) = y3 := by rw [wrap_u64, wrap_u64]; omega
       simp only [c3]
       obtain ⟨y2, hy2⟩ : ∃ y, y = 256 * y3 + gB (Sy.rows l) 2 := ⟨_, rfl⟩
       have r2 : 0 ≤ y2 ∧ y2 ≤ 281474976710655 := by omega
       have c2 : IntKind.wrap .u64 (IntKind.wrap .u64 (256 * y3) + gB (Sy.rows l) 2) = y2 := by rw [wrap_u64, wrap_u64]; omega
       simp only [c2]
       obtain ⟨y1, hy1⟩ : ∃ y, y = 256 * y2 + gB (Sy.rows l) 1 := ⟨_, rfl⟩
       have r1 : 0 ≤ y1 ∧ y1 ≤ 72057594037927935 := by omega
       have c1 : IntKind.wrap .u64 (IntKind.wrap .u64 (256 * y2) + gB (Sy.rows l) 1) = y1 := by rw [wrap_u64, wrap_u64]; omega
       simp only [c1]
       obtain ⟨y0, hy0⟩ : ∃ y, y = 256 * y1 + gB (Sy.rows l) 0 := ⟨_, rfl⟩
       have r0 : 0 ≤ y0 ∧ y0 ≤ 18446744073709551615 := by omega
       have c0 : IntKind.wrap .u64 (IntKind.wrap .u64 (256 * y1) + gB (Sy.rows l) 0) = y0 := by rw [wrap_u64, wrap_u64]; omega
       simp only [c0]
       have hf : y0 = gB (Sy.rows l) 0 + 256 * (gB (Sy.rows l) 1 + 256 * (gB (Sy.rows l) 2 + 256 * (gB (Sy.rows l) 3 + 256 * (gB (Sy.rows l) 4 + 256 * (gB (Sy.rows l) 5 + 256 * (gB (Sy.rows l) 6 + 256 * (gB (Sy.rows l) 7))))))) := by omega
       rw [hf])
   ·
    refine ⟨?_, fun h2 => ?_⟩
    ·
     omega
    ·
     refine ⟨?_, fun h3 => ?_⟩
     ·
      omega
     ·
      refine ⟨?_, fun h4 => ?_⟩
      ·
       omega
      ·
       refine ⟨?_, fun h5 => ?_⟩
       ·
        omega
       ·
        refine ⟨?_, fun h6 => ?_⟩
        ·
         omega
        ·
         refine ⟨?_, fun h7 => ?_⟩
         ·
          omega
         ·
          refine ⟨?_, fun h8 => ?_⟩
          ·
           omega
          ·
           refine ⟨?_, fun h9 => ?_⟩
           ·
            omega
           ·
            refine ⟨?_, fun h10 => ?_⟩
            ·
             omega
            ·
             first
             | (exfalso; exact hc.2 h0)
             | (
                simp only [t8, t1, getL, getS, getV, if_neg (show ¬ 8 ≤ (byL (Sy.rows l)).length by omega)]
                rfl)
             | (
                have hs : s = false := by cases s; rfl; exact absurd rfl hc.2
                have e1 := getL_map hB (k := 8) (by omega)
                have e3 := take8_val hB (by omega)
                have b0 := gB_rng hB (j := 0) (by omega)
                have g0 : Go.RowKit.intOf ((Sy.rows l).getD (Int.toNat 0) Go.undef) = gB (Sy.rows l) 0 := rfl
                have u0 : IntKind.wrap .u64 (gB (Sy.rows l) 0) = gB (Sy.rows l) 0 := by rw [wrap_u64]; omega
                have b1 := gB_rng hB (j := 1) (by omega)
                have g1 : Go.RowKit.intOf ((Sy.rows l).getD (Int.toNat 1) Go.undef) = gB (Sy.rows l) 1 := rfl
                have u1 : IntKind.wrap .u64 (gB (Sy.rows l) 1) = gB (Sy.rows l) 1 := by rw [wrap_u64]; omega
                have b2 := gB_rng hB (j := 2) (by omega)
                have g2 : Go.RowKit.intOf ((Sy.rows l).getD (Int.toNat 2) Go.undef) = gB (Sy.rows l) 2 := rfl
                have u2 : IntKind.wrap .u64 (gB (Sy.rows l) 2) = gB (Sy.rows l) 2 := by rw [wrap_u64]; omega
                have b3 := gB_rng hB (j := 3) (by omega)
                have g3 : Go.RowKit.intOf ((Sy.rows l).getD (Int.toNat 3) Go.undef) = gB (Sy.rows l) 3 := rfl
                have u3 : IntKind.wrap .u64 (gB (Sy.rows l) 3) = gB (Sy.rows l) 3 := by rw [wrap_u64]; omega
                have b4 := gB_rng hB (j := 4) (by omega)
                have g4 : Go.RowKit.intOf ((Sy.rows l).getD (Int.toNat 4) Go.undef) = gB (Sy.rows l) 4 := rfl
                have u4 : IntKind.wrap .u64 (gB (Sy.rows l) 4) = gB (Sy.rows l) 4 := by rw [wrap_u64]; omega
                have b5 := gB_rng hB (j := 5) (by omega)
                have g5 : Go.RowKit.intOf ((Sy.rows l).getD (Int.toNat 5) Go.undef) = gB (Sy.rows l) 5 := rfl
                have u5 : IntKind.wrap .u64 (gB (Sy.rows l) 5) = gB (Sy.rows l) 5 := by rw [wrap_u64]; omega
                have b6 := gB_rng hB (j := 6) (by omega)
                have g6 : Go.RowKit.intOf ((Sy.rows l).getD (Int.toNat 6) Go.undef) = gB (Sy.rows l) 6 := rfl
                have u6 : IntKind.wrap .u64 (gB (Sy.rows l) 6) = gB (Sy.rows l) 6 := by rw [wrap_u64]; omega
                have b7 := gB_rng hB (j := 7) (by omega)
                have g7 : Go.RowKit.intOf ((Sy.rows l).getD (Int.toNat 7) Go.undef) = gB (Sy.rows l) 7 := rfl
                have u7 : IntKind.wrap .u64 (gB (Sy.rows l) 7) = gB (Sy.rows l) 7 := by rw [wrap_u64]; omega
                simp only [g0, g1, g2, g3, g4, g5, g6, g7, u0, u1, u2, u3, u4, u5, u6, u7, t8, Int.toNat_natCast, List.take_length]
                rw [e1, e3, hs]
                have eS : getS (byL (Sy.rows l)) false 8 = false := by unfold getS; rw [if_pos (by omega)]
                rw [eS]
                obtain ⟨y7, hy7⟩ : ∃ y, y = gB (Sy.rows l) 7 := ⟨_, rfl⟩
                have r7 : 0 ≤ y7 ∧ y7 ≤ 255 := by omega
                have c7 : IntKind.wrap .u64 (0 + gB (Sy.rows l) 7) = y7 := by rw [wrap_u64]; omega
                simp only [c7]
                obtain ⟨y6, hy6⟩ : ∃ y, y = 256 * y7 + gB (Sy.rows l) 6 := ⟨_, rfl⟩
                have r6 : 0 ≤ y6 ∧ y6 ≤ 65535 := by omega
                have c6 : IntKind.wrap .u64 (IntKind.wrap .u64 (256 * y7) + gB (Sy.rows l) 6) = y6 := by rw [wrap_u64, wrap_u64]; omega
                simp only [c6]
                obtain ⟨y5, hy5⟩ : ∃ y, y = 256 * y6 + gB (Sy.rows l) 5 := ⟨_, rfl⟩
                have r5 : 0 ≤ y5 ∧ y5 ≤ 16777215 := by omega
                have c5 : IntKind.wrap .u64 (IntKind.wrap .u64 (256 * y6) + gB (Sy.rows l) 5) = y5 := by rw [wrap_u64, wrap_u64]; omega
                simp only [c5]
                obtain ⟨y4, hy4⟩ : ∃ y, y = 256 * y5 + gB (Sy.rows l) 4 := ⟨_, rfl⟩
                have r4 : 0 ≤ y4 ∧ y4 ≤ 4294967295 := by omega
                have c4 : IntKind.wrap .u64 (IntKind.wrap .u64 (256 * y5) + gB (Sy.rows l) 4) = y4 := by rw [wrap_u64, wrap_u64]; omega
                simp only [c4]
                obtain ⟨y3, hy3⟩ : ∃ y, y = 256 * y4 + gB (Sy.rows l) 3 := ⟨_, rfl⟩
                have r3 : 0 ≤ y3 ∧ y3 ≤ 1099511627775 := by omega
                have c3 : IntKind.wrap .u64 (IntKind.wrap .u64 (256 * y4) + gB (Sy.rows l) 3) = y3 := by rw [wrap_u64, wrap_u64]; omega
                simp only [c3]
                obtain ⟨y2, hy2⟩ : ∃ y, y = 256 * y3 + gB (Sy.rows l) 2 := ⟨_, rfl⟩
                have r2 : 0 ≤ y2 ∧ y2 ≤ 281474976710655 := by omega
                have c2 : IntKind.wrap .u64 (IntKind.wrap .u64 (256 * y3) + gB (Sy.rows l) 2) = y2 := by rw [wrap_u64, wrap_u64]; omega
                simp only [c2]
                obtain ⟨y1, hy1⟩ : ∃ y, y = 256 * y2 + gB (Sy.rows l) 1 := ⟨_, rfl⟩
                have r1 : 0 ≤ y1 ∧ y1 ≤ 72057594037927935 := by omega
                have c1 : IntKind.wrap .u64 (IntKind.wrap .u64 (256 * y2) + gB (Sy.rows l) 1) = y1 := by rw [wrap_u64, wrap_u64]; omega
                simp only [c1]
                obtain ⟨y0, hy0⟩ : ∃ y, y = 256 * y1 + gB (Sy.rows l) 0 := ⟨_, rfl⟩
                have r0 : 0 ≤ y0 ∧ y0 ≤ 18446744073709551615 := by omega
                have c0 : IntKind.wrap .u64 (IntKind.wrap .u64 (256 * y1) + gB (Sy.rows l) 0) = y0 := by rw [wrap_u64, wrap_u64]; omega
                simp only [c0]
                have hf : y0 = gB (Sy.rows l) 0 + 256 * (gB (Sy.rows l) 1 + 256 * (gB (Sy.rows l) 2 + 256 * (gB (Sy.rows l) 3 + 256 * (gB (Sy.rows l) 4 + 256 * (gB (Sy.rows l) 5 + 256 * (gB (Sy.rows l) 6 + 256 * (gB (Sy.rows l) 7))))))) := by omega
                rw [hf])
theorem ylg_rtake8 : ylc_rtake8.Good Tryd.prog syG (ylE [] [] [] []) := good_of_walk (Γ := ⟨[], syG, [], [], []⟩) (ρ := ylE [] [] [] []) sym rtake8_w rfl (fun _ _ _ _ => ok_nil) (fun s l hc hty => rtake8_h s l hc hty)
def rtake1_tree : Tree :=
 (.br (.bvar 0)
 (.ret (.tup (.cons (.agg (.cons (.hs .no (.cons (.int .u8) .nil) (.tup .nil)) (.cons (.bool (.tt true)) .nil))) (.cons (.int .u64 (.lit 0)) .nil))))
 (.br (lt_ (.ofI (.vop (.len 1) (.cons o0_ .nil))) (.lit 1))
 (.ret (.tup (.cons (.agg (.cons (.hs .no (.cons (.int .u8) .nil) (.tup .nil)) (.cons (.bool (.tt true)) .nil))) (.cons (.int .u64 (.lit 0)) .nil))))
 (.need (lt_ (.lit 0) (.ofI (.vop (.len 1) (.cons o0_ .nil))))
 (.need (le_ (.lit 1) (.ofI (.vop (.len 1) (.cons o0_ .nil))))
 (.ret (.tup (.cons (.agg (.cons (.hs .no (.cons (.int .u8) .nil) (.vop (.sub 1) (.cons o0_ (.cons (.int .i64 (.lit 1)) (.cons (.int .i64 (.ofI (.vop (.len 1) (.cons o0_ .nil)))) .nil))))) (.cons (.bool (.tt false)) .nil))) (.cons (.int .u64 (.wrap .u64 (ad_ (.lit 0) (.wrap .u64 (.ofI (.vop (.sel 1 0) (.cons o0_ (.cons (.int .i64 (.lit 0)) .nil)))))))) .nil))))))))
abbrev ylc_rtake1 : Con := ⟨140, [(.agg (.cons (.hs .no (.cons (.int .u8) .nil) o0_) (.cons (.bool (.bvar 0)) .nil))), (.int .i64 (.lit 1))], (an_ (.bapp 0 (.cons o0_ .nil)) (.not (.bvar 0))), (.tup (.cons (.agg (.cons (.hs .no (.cons (.int .u8) .nil) (.vapp 0 (.cons o0_ (.cons (.int .i64 (.lit 1)) .nil)))) (.cons (.bool (.bapp 1 (.cons o0_ (.cons (.bool (.bvar 0)) (.cons (.int .i64 (.lit 1)) .nil))))) .nil))) (.cons (.int .u64 (.iapp 0 (.cons o0_ (.cons (.int .i64 (.lit 1)) .nil)))) .nil))), ⟨0, 1, 1, 0⟩, none⟩
theorem rtake1_w : walk Tryd.prog 182 ⟨[], syG, [], [], []⟩ [] (.tup (.cons (.agg (.cons (.s (.cons (.int .u8) .nil)) (.cons .v .nil))) (.cons .v .nil))) ylc_rtake1 ylc_rtake1.n 3000 = some rtake1_tree := by kernel_rfl
theorem rtake1_h (s : Bool) (l : Value) (hc : holds (ylE [] [s] [l] []) (an_ (.bapp 0 (.cons o0_ .nil)) (.not (.bvar 0)))) (hty : patsTyp (ylE [] [s] [l] []) [(.agg (.cons (.hs .no (.cons (.int .u8) .nil) o0_) (.cons (.bool (.bvar 0)) .nil))), (.int .i64 (.lit 1))]) : rtake1_tree.holds (fun v_ => v_ = denV (ylE [] [s] [l] []) b0 (.tup (.cons (.agg (.cons (.hs .no (.cons (.int .u8) .nil) (.vapp 0 (.cons o0_ (.cons (.int .i64 (.lit 1)) .nil)))) (.cons (.bool (.bapp 1 (.cons o0_ (.cons (.bool (.bvar 0)) (.cons (.int .i64 (.lit 1)) .nil))))) .nil))) (.cons (.int .u64 (.iapp 0 (.cons o0_ (.cons (.int .i64 (.lit 1)) .nil)))) .nil)))) (ylE [] [s] [l] []) := by
  simp only [Tree.holds, Sy.holds, AllN, Env.more, ylE, List.cons_append, List.nil_append, List.append_nil, denV, denI, denB, denL, I2.den, VOp.den, List.getD_cons_zero, List.getD_cons_succ, Cst.den, syso, syse, syio, sybo, ylb_okr, List.map_nil, List.map_cons, B2.ofInts, B2.denI, B2.denB, if_true, Bool.false_eq_true, if_false, Nat.div_one, Nat.mul_one, Nat.add_zero, holds] at hc
  simp only [patsTyp, patTyp, patTypL, ylE, denV, denL, List.getD_cons_zero, List.getD_cons_succ, and_true, true_and] at hty
  have hL_l : typ (.sl (.cons (.int .u8) .nil)) l := by first | exact hty | exact hty.1 | exact hty.2 | exact hty.1.1 | exact hty.1.2 | exact hty.2.1 | exact hty.2.2 | exact hty.2.2.1 | exact hty.2.2.2
  have hN_l := typ_len (n := 1) hL_l rfl (by omega)
  simp only [Nat.div_one, Nat.mul_one] at hN_l
  unfold rtake1_tree
  simp only [Tree.holds, Sy.holds, AllN, Env.more, ylE, List.cons_append, List.nil_append, List.append_nil, denV, denI, denB, denL, I2.den, VOp.den, List.getD_cons_zero, List.getD_cons_succ, Cst.den, syso, syse, syio, sybo, yli_rn, ylb_rs, ylv_rl, List.map_nil, List.map_cons, B2.ofInts, B2.denI, B2.denB, if_true, Bool.false_eq_true, if_false, Nat.div_one, Nat.mul_one, Nat.add_zero]
  have hl := byL_len (Sy.rows l)
  have hB := isB_typ hty hc.1
  refine ⟨fun h0 => ?_, fun h0 => ?_⟩
  ·
   first
   | (exfalso; exact hc.2 h0)
   | (
      simp only [t8, t1, getL, getS, getV, if_neg (show ¬ 1 ≤ (byL (Sy.rows l)).length by omega)]
      rfl)
   | (
      have hs : s = false := by cases s; rfl; exact absurd rfl hc.2
      have e1 := getL_map hB (k := 1) (by omega)
      have e3 := take1_val hB (by omega)
      have b0 := gB_rng hB (j := 0) (by omega)
      have g0 : Go.RowKit.intOf ((Sy.rows l).getD (Int.toNat 0) Go.undef) = gB (Sy.rows l) 0 := rfl
      have u0 : IntKind.wrap .u64 (gB (Sy.rows l) 0) = gB (Sy.rows l) 0 := by rw [wrap_u64]; omega
      simp only [g0, u0, t1, Int.toNat_natCast, List.take_length]
      rw [e1, e3, hs]
      have eS : getS (byL (Sy.rows l)) false 1 = false := by unfold getS; rw [if_pos (by omega)]
      rw [eS]
      obtain ⟨y0, hy0⟩ : ∃ y, y = gB (Sy.rows l) 0 := ⟨_, rfl⟩
      have r0 : 0 ≤ y0 ∧ y0 ≤ 255 := by omega
      have c0 : IntKind.wrap .u64 (0 + gB (Sy.rows l) 0) = y0 := by rw [wrap_u64]; omega
      simp only [c0]
      have hf : y0 = gB (Sy.rows l) 0 := by omega
      rw [hf])
  ·
   refine ⟨fun h1 => ?_, fun h1 => ?_⟩
   ·
    first
    | (exfalso; exact hc.2 h0)
    | (
       simp only [t8, t1, getL, getS, getV, if_neg (show ¬ 1 ≤ (byL (Sy.rows l)).length by omega)]
       rfl)
    | (
       have hs : s = false := by cases s; rfl; exact absurd rfl hc.2
       have e1 := getL_map hB (k := 1) (by omega)
       have e3 := take1_val hB (by omega)
       have b0 := gB_rng hB (j := 0) (by omega)
       have g0 : Go.RowKit.intOf ((Sy.rows l).getD (Int.toNat 0) Go.undef) = gB (Sy.rows l) 0 := rfl
       have u0 : IntKind.wrap .u64 (gB (Sy.rows l) 0) = gB (Sy.rows l) 0 := by rw [wrap_u64]; omega
       simp only [g0, u0, t1, Int.toNat_natCast, List.take_length]
       rw [e1, e3, hs]
       have eS : getS (byL (Sy.rows l)) false 1 = false := by unfold getS; rw [if_pos (by omega)]
       rw [eS]
       obtain ⟨y0, hy0⟩ : ∃ y, y = gB (Sy.rows l) 0 := ⟨_, rfl⟩
       have r0 : 0 ≤ y0 ∧ y0 ≤ 255 := by omega
       have c0 : IntKind.wrap .u64 (0 + gB (Sy.rows l) 0) = y0 := by rw [wrap_u64]; omega
       simp only [c0]
       have hf : y0 = gB (Sy.rows l) 0 := by omega
       rw [hf])
   ·
    refine ⟨?_, fun h2 => ?_⟩
    ·
     omega
    ·
     refine ⟨?_, fun h3 => ?_⟩
     ·
      omega
     ·
      first
      | (exfalso; exact hc.2 h0)
      | (
         simp only [t8, t1, getL, getS, getV, if_neg (show ¬ 1 ≤ (byL (Sy.rows l)).length by omega)]
         rfl)
      | (
         have hs : s = false := by cases s; rfl; exact absurd rfl hc.2
         have e1 := getL_map hB (k := 1) (by omega)
         have e3 := take1_val hB (by omega)
         have b0 := gB_rng hB (j := 0) (by omega)
         have g0 : Go.RowKit.intOf ((Sy.rows l).getD (Int.toNat 0) Go.undef) = gB (Sy.rows l) 0 := rfl
         have u0 : IntKind.wrap .u64 (gB (Sy.rows l) 0) = gB (Sy.rows l) 0 := by rw [wrap_u64]; omega
         simp only [g0, u0, t1, Int.toNat_natCast, List.take_length]
         rw [e1, e3, hs]
         have eS : getS (byL (Sy.rows l)) false 1 = false := by unfold getS; rw [if_pos (by omega)]
         rw [eS]
         obtain ⟨y0, hy0⟩ : ∃ y, y = gB (Sy.rows l) 0 := ⟨_, rfl⟩
         have r0 : 0 ≤ y0 ∧ y0 ≤ 255 := by omega
         have c0 : IntKind.wrap .u64 (0 + gB (Sy.rows l) 0) = y0 := by rw [wrap_u64]; omega
         simp only [c0]
         have hf : y0 = gB (Sy.rows l) 0 := by omega
         rw [hf])
theorem ylg_rtake1 : ylc_rtake1.Good Tryd.prog syG (ylE [] [] [] []) := good_of_walk (Γ := ⟨[], syG, [], [], []⟩) (ρ := ylE [] [] [] []) sym rtake1_w rfl (fun _ _ _ _ => ok_nil) (fun s l hc hty => rtake1_h s l hc hty)
def isT_tree : Tree :=
 (.br (.not (eq_ v0_ v2_))
 (.ret (.bool (.tt false)))
 (.br (.not (eq_ v1_ v3_))
 (.ret (.bool (.tt false)))
 (.br (.not (eq_ (.ofI (.vop (.len 1) (.cons o0_ .nil))) (.ofI (.vop (.len 1) (.cons o1_ .nil)))))
 (.ret (.bool (.tt false)))
 (.loop ⟨1, 0, 0, 0⟩ (an_ (le_ (.lit 0) (.lit 0)) (an_ (le_ (.lit 0) (.ofI (.vop (.len 1) (.cons o0_ .nil)))) (.bapp 8 (.cons o0_ (.cons o1_ (.cons (.int .i64 (.lit 0)) .nil)))))) (an_ (le_ (.lit 0) v4_) (an_ (le_ v4_ (.ofI (.vop (.len 1) (.cons o0_ .nil)))) (.bapp 8 (.cons o0_ (.cons o1_ (.cons z4_ .nil))))))
 (.br (lt_ v4_ (.ofI (.vop (.len 1) (.cons o0_ .nil))))
 (.need (an_ (le_ (.lit 0) v4_) (lt_ v4_ (.ofI (.vop (.len 1) (.cons o0_ .nil)))))
 (.need (an_ (le_ (.lit 0) v4_) (lt_ v4_ (.ofI (.vop (.len 1) (.cons o1_ .nil)))))
 (.br (.not (eq_ (.ofI (.vop (.sel 1 0) (.cons o0_ (.cons z4_ .nil)))) (.ofI (.vop (.sel 1 0) (.cons o1_ (.cons z4_ .nil))))))
 (.ret (.bool (.tt false)))
 (.back (an_ (le_ (.lit 0) (wr_ (ad_ v4_ (.lit 1)))) (an_ (le_ (wr_ (ad_ v4_ (.lit 1))) (.ofI (.vop (.len 1) (.cons o0_ .nil)))) (.bapp 8 (.cons o0_ (.cons o1_ (.cons (.int .i64 (wr_ (ad_ v4_ (.lit 1)))) .nil)))))) (sb_ (.ofI (.vop (.len 1) (.cons o0_ .nil))) (wr_ (ad_ v4_ (.lit 1)))) (sb_ (.ofI (.vop (.len 1) (.cons o0_ .nil))) v4_)))))
 (.ret (.bool (.tt true))))))))
abbrev ylc_isT : Con := ⟨53, [(.agg (.cons z0_ (.cons z1_ (.cons (.hs .no (.cons (.int .i64) .nil) o0_) .nil)))), (.agg (.cons z2_ (.cons z3_ (.cons (.hs .no (.cons (.int .i64) .nil) o1_) .nil))))], (.tt true), (.bool (.bapp 7 (.cons z0_ (.cons z1_ (.cons o0_ (.cons z2_ (.cons z3_ (.cons o1_ .nil)))))))), ⟨4, 0, 2, 0⟩, none⟩
theorem isT_w : walk Tryd.prog 182 ⟨[], syG, [], [], []⟩ [⟨0, ⟨1, 0, 0, 0⟩, [(5, z4_), (4, (.bool (.tt false)))], none, (an_ (le_ (.lit 0) v4_) (an_ (le_ v4_ (.ofI (.vop (.len 1) (.cons o0_ .nil)))) (.bapp 8 (.cons o0_ (.cons o1_ (.cons z4_ .nil)))))), (sb_ (.ofI (.vop (.len 1) (.cons o0_ .nil))) v4_), 0, []⟩] .v ylc_isT ylc_isT.n 3000 = some isT_tree := by kernel_rfl
theorem isT_h (b : Int) (t : Int) (d : Int) (u : Int) (l : Value) (m : Value) (hc : holds (ylE [b, t, d, u] [] [l, m] []) (.tt true)) (hty : patsTyp (ylE [b, t, d, u] [] [l, m] []) [(.agg (.cons z0_ (.cons z1_ (.cons (.hs .no (.cons (.int .i64) .nil) o0_) .nil)))), (.agg (.cons z2_ (.cons z3_ (.cons (.hs .no (.cons (.int .i64) .nil) o1_) .nil))))]) : isT_tree.holds (fun v_ => v_ = denV (ylE [b, t, d, u] [] [l, m] []) b0 (.bool (.bapp 7 (.cons z0_ (.cons z1_ (.cons o0_ (.cons z2_ (.cons z3_ (.cons o1_ .nil))))))))) (ylE [b, t, d, u] [] [l, m] []) := by
  simp only [Tree.holds, Sy.holds, AllN, Env.more, ylE, List.cons_append, List.nil_append, List.append_nil, denV, denI, denB, denL, I2.den, VOp.den, List.getD_cons_zero, List.getD_cons_succ, Cst.den, syso, syse, syio, sybo, List.map_nil, List.map_cons, B2.ofInts, B2.denI, B2.denB, if_true, Bool.false_eq_true, if_false, Nat.div_one, Nat.mul_one, Nat.add_zero, holds] at hc
  simp only [patsTyp, patTyp, patTypL, ylE, denV, denL, List.getD_cons_zero, List.getD_cons_succ, and_true, true_and] at hty
  have hL_l : typ (.sl (.cons (.int .i64) .nil)) l := by first | exact hty | exact hty.1 | exact hty.2 | exact hty.1.1 | exact hty.1.2 | exact hty.2.1 | exact hty.2.2 | exact hty.2.2.1 | exact hty.2.2.2
  have hN_l := typ_len (n := 1) hL_l rfl (by omega)
  simp only [Nat.div_one, Nat.mul_one] at hN_l
  have hL_m : typ (.sl (.cons (.int .i64) .nil)) m := by first | exact hty | exact hty.1 | exact hty.2 | exact hty.1.1 | exact hty.1.2 | exact hty.2.1 | exact hty.2.2 | exact hty.2.2.1 | exact hty.2.2.2
  have hN_m := typ_len (n := 1) hL_m rfl (by omega)
  simp only [Nat.div_one, Nat.mul_one] at hN_m
  unfold isT_tree
  simp only [Tree.holds, Sy.holds, AllN, Env.more, ylE, List.cons_append, List.nil_append, List.append_nil, denV, denI, denB, denL, I2.den, VOp.den, List.getD_cons_zero, List.getD_cons_succ, Cst.den, syso, syse, syio, sybo, ylb_ist, ylb_pfx, List.map_nil, List.map_cons, B2.ofInts, B2.denI, B2.denB, if_true, Bool.false_eq_true, if_false, Nat.div_one, Nat.mul_one, Nat.add_zero]
  refine ⟨fun h0 => ?_, fun h0 => ?_⟩
  ·
   refine congrArg Value.bool ?_
   first
   | exact (decide_eq_false (fun h => absurd h.1 (by omega))).symm
   | exact (decide_eq_false (fun h => absurd h.2.1 (by omega))).symm
   | (refine (decide_eq_false (fun h => ?_)).symm
      have h2 := congrArg List.length h.2.2
      rw [ints_len, ints_len] at h2
      omega)
  ·
   refine ⟨fun h1 => ?_, fun h1 => ?_⟩
   ·
    refine congrArg Value.bool ?_
    first
    | exact (decide_eq_false (fun h => absurd h.1 (by omega))).symm
    | exact (decide_eq_false (fun h => absurd h.2.1 (by omega))).symm
    | (refine (decide_eq_false (fun h => ?_)).symm
       have h2 := congrArg List.length h.2.2
       rw [ints_len, ints_len] at h2
       omega)
   ·
    refine ⟨fun h2 => ?_, fun h2 => ?_⟩
    ·
     refine congrArg Value.bool ?_
     first
     | exact (decide_eq_false (fun h => absurd h.1 (by omega))).symm
     | exact (decide_eq_false (fun h => absurd h.2.1 (by omega))).symm
     | (refine (decide_eq_false (fun h => ?_)).symm
        have h2 := congrArg List.length h.2.2
        rw [ints_len, ints_len] at h2
        omega)
    ·
     refine ⟨?_, ?_⟩
     ·
      exact ⟨by omega, by omega, decide_eq_true rfl⟩
     ·
      intro i0a hi0
      refine ⟨fun h3 => ?_, fun h3 => ?_⟩
      ·
       refine ⟨?_, fun h4 => ?_⟩
       ·
        omega
       ·
        refine ⟨?_, fun h5 => ?_⟩
        ·
         omega
        ·
         refine ⟨fun h6 => ?_, fun h6 => ?_⟩
         ·
          refine congrArg Value.bool ?_
          try (exfalso; omega)
          by_cases hlt : i0a < ((Sy.rows l).length : Int)
          · first
            | (exfalso; omega)
            | (refine (decide_eq_false (fun h => ?_)).symm
               have h9 := ints_at l (i := i0a.toNat) (by omega)
               rw [h.2.2, ints_at m (i := i0a.toNat) (by omega)] at h9
               have := Option.some.inj h9
               omega)
          · first
            | (exfalso; omega)
            | (obtain ⟨q0, q1, q2⟩ := hi0
               have q3 := of_decide_eq_true q2
               rw [List.take_of_length_le (by rw [ints_len]; omega), List.take_of_length_le (by rw [ints_len]; omega)] at q3
               exact (decide_eq_true (show b = d ∧ t = u ∧ intsOf l = intsOf m from ⟨by omega, by omega, q3⟩)).symm)
         ·
          have wf0 := wr_i64 (i0a + 1)
          refine ⟨?_, ?_⟩
          ·
           obtain ⟨q0, q1, q2⟩ := hi0
           have hw : IntKind.wrap .i64 (i0a + 1) = i0a + 1 := by have := wr_i64 (i0a + 1); omega
           rw [hw, toNat_succ (by omega)]
           refine ⟨by omega, by omega, decide_eq_true ?_⟩
           rw [take_more (ints_at l (by omega)), take_more (ints_at m (by omega)), of_decide_eq_true q2]
           rw [show Go.RowKit.intOf ((Sy.rows l).getD i0a.toNat Go.undef) = Go.RowKit.intOf ((Sy.rows m).getD i0a.toNat Go.undef) by omega]
          ·
           have := wr_i64 (i0a + 1)
           omega
      ·
       refine congrArg Value.bool ?_
       try (exfalso; omega)
       by_cases hlt : i0a < ((Sy.rows l).length : Int)
       · first
         | (exfalso; omega)
         | (refine (decide_eq_false (fun h => ?_)).symm
            have h9 := ints_at l (i := i0a.toNat) (by omega)
            rw [h.2.2, ints_at m (i := i0a.toNat) (by omega)] at h9
            have := Option.some.inj h9
            omega)
       · first
         | (exfalso; omega)
         | (obtain ⟨q0, q1, q2⟩ := hi0
            have q3 := of_decide_eq_true q2
            rw [List.take_of_length_le (by rw [ints_len]; omega), List.take_of_length_le (by rw [ints_len]; omega)] at q3
            exact (decide_eq_true (show b = d ∧ t = u ∧ intsOf l = intsOf m from ⟨by omega, by omega, q3⟩)).symm)
theorem ylg_isT : ylc_isT.Good Tryd.prog syG (ylE [] [] [] []) := good_of_walk (Γ := ⟨[], syG, [], [], []⟩) (ρ := ylE [] [] [] []) sym isT_w rfl (fun _ _ _ _ => ok_nil) (fun b t d u l m hc hty => isT_h b t d u l m hc hty)
def rdec_tree : Tree :=
 (.need (an_ (.bapp 0 (.cons o0_ .nil)) (le_ (.ofI (.vop (.len 1) (.cons o0_ .nil))) (.lit 140737488355000)))
 (.br (.not (eq_ (.iapp 9 (.cons o0_ (.cons (.int .u8 (.lit 5)) .nil))) (.lit 0)))
 (.ret (.tup (.cons (.agg (.cons (.int .i64 (.lit 0)) (.cons (.int .i64 (.lit 0)) (.cons (.hs .no (.cons (.int .i64) .nil) (.tup .nil)) .nil)))) (.cons (.int .i64 (.iapp 9 (.cons o0_ (.cons (.int .u8 (.lit 5)) .nil)))) .nil))))
 (.br (lt_ (.ofI (.vop (.len 1) (.cons (.vapp 8 (.cons o0_ (.cons (.int .u8 (.lit 5)) .nil))) .nil))) (.lit 17))
 (.ret (.tup (.cons (.agg (.cons (.int .i64 (.lit 0)) (.cons (.int .i64 (.lit 0)) (.cons (.hs .no (.cons (.int .i64) .nil) (.tup .nil)) .nil)))) (.cons (.int .i64 (.lit 3)) .nil))))
 (.need (lt_ (.lit 16) (.ofI (.vop (.len 1) (.cons (.vapp 8 (.cons o0_ (.cons (.int .u8 (.lit 5)) .nil))) .nil))))
 (.br (.not (eq_ (.ofI (.vop (.len 1) (.cons (.vapp 8 (.cons o0_ (.cons (.int .u8 (.lit 5)) .nil))) .nil))) (wr_ (ad_ (.lit 17) (wr_ (ml_ (.lit 8) (wr_ (.ofI (.vop (.sel 1 0) (.cons (.vapp 8 (.cons o0_ (.cons (.int .u8 (.lit 5)) .nil))) (.cons (.int .i64 (.lit 16)) .nil)))))))))))
 (.ret (.tup (.cons (.agg (.cons (.int .i64 (.lit 0)) (.cons (.int .i64 (.lit 0)) (.cons (.hs .no (.cons (.int .i64) .nil) (.tup .nil)) .nil)))) (.cons (.int .i64 (.lit 3)) .nil))))
 (.need (.bapp 0 (.cons (.vapp 8 (.cons o0_ (.cons (.int .u8 (.lit 5)) .nil))) .nil))
 (.need (an_ (.bapp 0 (.cons (.vapp 0 (.cons (.vapp 8 (.cons o0_ (.cons (.int .u8 (.lit 5)) .nil))) (.cons (.int .i64 (.lit 8)) .nil))) .nil)) (.not (.bapp 1 (.cons (.vapp 8 (.cons o0_ (.cons (.int .u8 (.lit 5)) .nil))) (.cons (.bool (.tt false)) (.cons (.int .i64 (.lit 8)) .nil))))))
 (.need (an_ (.bapp 0 (.cons (.vapp 0 (.cons (.vapp 0 (.cons (.vapp 8 (.cons o0_ (.cons (.int .u8 (.lit 5)) .nil))) (.cons (.int .i64 (.lit 8)) .nil))) (.cons (.int .i64 (.lit 8)) .nil))) .nil)) (.not (.bapp 1 (.cons (.vapp 0 (.cons (.vapp 8 (.cons o0_ (.cons (.int .u8 (.lit 5)) .nil))) (.cons (.int .i64 (.lit 8)) .nil))) (.cons (.bool (.bapp 1 (.cons (.vapp 8 (.cons o0_ (.cons (.int .u8 (.lit 5)) .nil))) (.cons (.bool (.tt false)) (.cons (.int .i64 (.lit 8)) .nil))))) (.cons (.int .i64 (.lit 8)) .nil))))))
 (.loop ⟨1, 1, 2, 0⟩ (an_ (le_ (.lit 0) (.lit 0)) (an_ (le_ (.lit 0) (.iapp 0 (.cons (.vapp 0 (.cons (.vapp 0 (.cons (.vapp 8 (.cons o0_ (.cons (.int .u8 (.lit 5)) .nil))) (.cons (.int .i64 (.lit 8)) .nil))) (.cons (.int .i64 (.lit 8)) .nil))) (.cons (.int .i64 (.lit 1)) .nil)))) (an_ (.bapp 0 (.cons (.vapp 0 (.cons (.vapp 0 (.cons (.vapp 0 (.cons (.vapp 8 (.cons o0_ (.cons (.int .u8 (.lit 5)) .nil))) (.cons (.int .i64 (.lit 8)) .nil))) (.cons (.int .i64 (.lit 8)) .nil))) (.cons (.int .i64 (.lit 1)) .nil))) .nil)) (.bapp 5 (.cons (.tup .nil) (.cons (.vapp 0 (.cons (.vapp 0 (.cons (.vapp 0 (.cons (.vapp 8 (.cons o0_ (.cons (.int .u8 (.lit 5)) .nil))) (.cons (.int .i64 (.lit 8)) .nil))) (.cons (.int .i64 (.lit 8)) .nil))) (.cons (.int .i64 (.lit 1)) .nil))) (.cons (.bool (.bapp 1 (.cons (.vapp 0 (.cons (.vapp 0 (.cons (.vapp 8 (.cons o0_ (.cons (.int .u8 (.lit 5)) .nil))) (.cons (.int .i64 (.lit 8)) .nil))) (.cons (.int .i64 (.lit 8)) .nil))) (.cons (.bool (.bapp 1 (.cons (.vapp 0 (.cons (.vapp 8 (.cons o0_ (.cons (.int .u8 (.lit 5)) .nil))) (.cons (.int .i64 (.lit 8)) .nil))) (.cons (.bool (.bapp 1 (.cons (.vapp 8 (.cons o0_ (.cons (.int .u8 (.lit 5)) .nil))) (.cons (.bool (.tt false)) (.cons (.int .i64 (.lit 8)) .nil))))) (.cons (.int .i64 (.lit 8)) .nil))))) (.cons (.int .i64 (.lit 1)) .nil))))) (.cons o0_ (.cons (.int .i64 (.lit 0)) .nil))))))))) (an_ (le_ (.lit 0) v0_) (an_ (le_ v0_ (.iapp 0 (.cons (.vapp 0 (.cons (.vapp 0 (.cons (.vapp 8 (.cons o0_ (.cons (.int .u8 (.lit 5)) .nil))) (.cons (.int .i64 (.lit 8)) .nil))) (.cons (.int .i64 (.lit 8)) .nil))) (.cons (.int .i64 (.lit 1)) .nil)))) (an_ (.bapp 0 (.cons o2_ .nil)) (.bapp 5 (.cons o1_ (.cons o2_ (.cons (.bool (.bvar 0)) (.cons o0_ (.cons z0_ .nil)))))))))
 (.br (lt_ v0_ (wr_ (.iapp 0 (.cons (.vapp 0 (.cons (.vapp 0 (.cons (.vapp 8 (.cons o0_ (.cons (.int .u8 (.lit 5)) .nil))) (.cons (.int .i64 (.lit 8)) .nil))) (.cons (.int .i64 (.lit 8)) .nil))) (.cons (.int .i64 (.lit 1)) .nil)))))
 (.need (an_ (.bapp 0 (.cons o2_ .nil)) (.not (.bvar 0)))
 (.need (le_ (ad_ (.ofI (.vop (.len 1) (.cons o1_ .nil))) (.lit 1)) (.lit 17592186044416))
 (.back (an_ (le_ (.lit 0) (wr_ (ad_ v0_ (.lit 1)))) (an_ (le_ (wr_ (ad_ v0_ (.lit 1))) (.iapp 0 (.cons (.vapp 0 (.cons (.vapp 0 (.cons (.vapp 8 (.cons o0_ (.cons (.int .u8 (.lit 5)) .nil))) (.cons (.int .i64 (.lit 8)) .nil))) (.cons (.int .i64 (.lit 8)) .nil))) (.cons (.int .i64 (.lit 1)) .nil)))) (an_ (.bapp 0 (.cons (.vapp 0 (.cons o2_ (.cons (.int .i64 (.lit 8)) .nil))) .nil)) (.bapp 5 (.cons (.vop .cat (.cons o1_ (.cons (.tup (.cons (.int .i64 (wr_ (.iapp 0 (.cons o2_ (.cons (.int .i64 (.lit 8)) .nil))))) .nil)) .nil))) (.cons (.vapp 0 (.cons o2_ (.cons (.int .i64 (.lit 8)) .nil))) (.cons (.bool (.bapp 1 (.cons o2_ (.cons (.bool (.bvar 0)) (.cons (.int .i64 (.lit 8)) .nil))))) (.cons o0_ (.cons (.int .i64 (wr_ (ad_ v0_ (.lit 1)))) .nil))))))))) (sb_ (.iapp 0 (.cons (.vapp 0 (.cons (.vapp 0 (.cons (.vapp 8 (.cons o0_ (.cons (.int .u8 (.lit 5)) .nil))) (.cons (.int .i64 (.lit 8)) .nil))) (.cons (.int .i64 (.lit 8)) .nil))) (.cons (.int .i64 (.lit 1)) .nil))) (wr_ (ad_ v0_ (.lit 1)))) (sb_ (.iapp 0 (.cons (.vapp 0 (.cons (.vapp 0 (.cons (.vapp 8 (.cons o0_ (.cons (.int .u8 (.lit 5)) .nil))) (.cons (.int .i64 (.lit 8)) .nil))) (.cons (.int .i64 (.lit 8)) .nil))) (.cons (.int .i64 (.lit 1)) .nil))) v0_))))
 (.br (.not (eq_ (.iapp 10 (.cons (.int .i64 (wr_ (.iapp 0 (.cons (.vapp 8 (.cons o0_ (.cons (.int .u8 (.lit 5)) .nil))) (.cons (.int .i64 (.lit 8)) .nil))))) (.cons (.int .i64 (wr_ (.iapp 0 (.cons (.vapp 0 (.cons (.vapp 8 (.cons o0_ (.cons (.int .u8 (.lit 5)) .nil))) (.cons (.int .i64 (.lit 8)) .nil))) (.cons (.int .i64 (.lit 8)) .nil))))) (.cons o1_ .nil)))) (.lit 0)))
 (.ret (.tup (.cons (.agg (.cons (.int .i64 (.lit 0)) (.cons (.int .i64 (.lit 0)) (.cons (.hs .no (.cons (.int .i64) .nil) (.tup .nil)) .nil)))) (.cons (.int .i64 (.lit 3)) .nil))))
 (.ret (.tup (.cons (.agg (.cons (.int .i64 (wr_ (.iapp 0 (.cons (.vapp 8 (.cons o0_ (.cons (.int .u8 (.lit 5)) .nil))) (.cons (.int .i64 (.lit 8)) .nil))))) (.cons (.int .i64 (wr_ (.iapp 0 (.cons (.vapp 0 (.cons (.vapp 8 (.cons o0_ (.cons (.int .u8 (.lit 5)) .nil))) (.cons (.int .i64 (.lit 8)) .nil))) (.cons (.int .i64 (.lit 8)) .nil))))) (.cons (.hs .no (.cons (.int .i64) .nil) o1_) .nil)))) (.cons (.int .i64 (.lit 0)) .nil)))))))))))))))
abbrev ylc_rdec : Con := ⟨51, [(.hs .no (.cons (.int .u8) .nil) o0_)], (an_ (.bapp 0 (.cons o0_ .nil)) (le_ (.ofI (.vop (.len 1) (.cons o0_ .nil))) (.lit 4096))), (.tup (.cons (.agg (.cons (.int .i64 (.iapp 32 (.cons o0_ .nil))) (.cons (.int .i64 (.iapp 33 (.cons o0_ .nil))) (.cons (.hs .no (.cons (.int .i64) .nil) (.vapp 11 (.cons o0_ .nil))) .nil)))) (.cons (.int .i64 (.iapp 31 (.cons o0_ .nil))) .nil))), ⟨0, 0, 1, 0⟩, none⟩
theorem rdec_w : walk Tryd.prog 182 ⟨[zb6c_ropen, yfc_rmay9, ylc_rtake8, ylc_rtake1], syG, [], [], []⟩ [⟨0, ⟨1, 1, 2, 0⟩, [(11, z0_)], some [[(.int .i64 (.lit 0)), (.int .i64 (.lit 0)), (.cst .nilS)], [], [(.hs .no (.cons (.int .u8) .nil) o2_), (.bool (.bvar 0))], [], [], [], [(.int .i64 (wr_ (.iapp 0 (.cons (.vapp 8 (.cons o0_ (.cons (.int .u8 (.lit 5)) .nil))) (.cons (.int .i64 (.lit 8)) .nil))))), (.int .i64 (wr_ (.iapp 0 (.cons (.vapp 0 (.cons (.vapp 8 (.cons o0_ (.cons (.int .u8 (.lit 5)) .nil))) (.cons (.int .i64 (.lit 8)) .nil))) (.cons (.int .i64 (.lit 8)) .nil))))), (.hs (.id 1000 2) (.cons (.int .i64) .nil) o1_)]], (an_ (le_ (.lit 0) v0_) (an_ (le_ v0_ (.iapp 0 (.cons (.vapp 0 (.cons (.vapp 0 (.cons (.vapp 8 (.cons o0_ (.cons (.int .u8 (.lit 5)) .nil))) (.cons (.int .i64 (.lit 8)) .nil))) (.cons (.int .i64 (.lit 8)) .nil))) (.cons (.int .i64 (.lit 1)) .nil)))) (an_ (.bapp 0 (.cons o2_ .nil)) (.bapp 5 (.cons o1_ (.cons o2_ (.cons (.bool (.bvar 0)) (.cons o0_ (.cons z0_ .nil))))))))), (sb_ (.iapp 0 (.cons (.vapp 0 (.cons (.vapp 0 (.cons (.vapp 8 (.cons o0_ (.cons (.int .u8 (.lit 5)) .nil))) (.cons (.int .i64 (.lit 8)) .nil))) (.cons (.int .i64 (.lit 8)) .nil))) (.cons (.int .i64 (.lit 1)) .nil))) v0_), 1, []⟩] (.tup (.cons (.agg (.cons .v (.cons .v (.cons (.s (.cons (.int .i64) .nil)) .nil)))) (.cons .v .nil))) ylc_rdec ylc_rdec.n 3000 = some rdec_tree := by kernel_rfl
theorem rdec_h (c : Value) (hc : holds (ylE [] [] [c] []) (an_ (.bapp 0 (.cons o0_ .nil)) (le_ (.ofI (.vop (.len 1) (.cons o0_ .nil))) (.lit 4096)))) (hty : patsTyp (ylE [] [] [c] []) [(.hs .no (.cons (.int .u8) .nil) o0_)]) : rdec_tree.holds (fun v_ => v_ = denV (ylE [] [] [c] []) b0 (.tup (.cons (.agg (.cons (.int .i64 (.iapp 32 (.cons o0_ .nil))) (.cons (.int .i64 (.iapp 33 (.cons o0_ .nil))) (.cons (.hs .no (.cons (.int .i64) .nil) (.vapp 11 (.cons o0_ .nil))) .nil)))) (.cons (.int .i64 (.iapp 31 (.cons o0_ .nil))) .nil)))) (ylE [] [] [c] []) := by
  simp only [Tree.holds, Sy.holds, AllN, Env.more, ylE, List.cons_append, List.nil_append, List.append_nil, denV, denI, denB, denL, I2.den, VOp.den, List.getD_cons_zero, List.getD_cons_succ, Cst.den, syso, syse, syio, sybo, ylb_okr, List.map_nil, List.map_cons, B2.ofInts, B2.denI, B2.denB, if_true, Bool.false_eq_true, if_false, Nat.div_one, Nat.mul_one, Nat.add_zero, holds] at hc
  simp only [patsTyp, patTyp, patTypL, ylE, denV, denL, List.getD_cons_zero, List.getD_cons_succ, and_true, true_and] at hty
  have hL_c : typ (.sl (.cons (.int .u8) .nil)) c := by first | exact hty | exact hty.1 | exact hty.2 | exact hty.1.1 | exact hty.1.2 | exact hty.2.1 | exact hty.2.2 | exact hty.2.2.1 | exact hty.2.2.2
  have hN_c := typ_len (n := 1) hL_c rfl (by omega)
  simp only [Nat.div_one, Nat.mul_one] at hN_c
  unfold rdec_tree
  simp only [Tree.holds, Sy.holds, AllN, Env.more, ylE, List.cons_append, List.nil_append, List.append_nil, denV, denI, denB, denL, I2.den, VOp.den, List.getD_cons_zero, List.getD_cons_succ, Cst.den, syso, syse, syio, sybo, yli_rn, yli_ble, yli_may, yli_dce, yli_dcb, yli_dct, ylb_okr, ylb_rs, ylb_dst, ylv_rl, ylv_blv, ylv_dcl, List.map_nil, List.map_cons, B2.ofInts, B2.denI, B2.denB, if_true, Bool.false_eq_true, if_false, Nat.div_one, Nat.mul_one, Nat.add_zero]
  have hB := blV_isB (isB_typ hty hc.1) 5
  have s1 := dc_spec (Sy.rows c)
  have n1 := hdN_lt (bx (Sy.rows c))
  have hlX : (bx (Sy.rows c)).length = (Sy.rows (blV (Sy.rows c) 5)).length := byL_len _
  have hG : 16 < ((Sy.rows (blV (Sy.rows c) 5)).length : Int) → (hdN (bx (Sy.rows c)) : Int) = gB (Sy.rows (blV (Sy.rows c) 5)) 16 := fun h => hdN_gB hB (by omega)
  have g16 : Go.RowKit.intOf ((Sy.rows (blV (Sy.rows c) 5)).getD (Int.toNat 16) Go.undef) = gB (Sy.rows (blV (Sy.rows c) 5)) 16 := rfl
  simp only [rl_eq, bx_def, t8, t1, hdN_def, hdN_wr, g16, rd_wr]
  clear g16
  have w1 := wr_i64 (gB (Sy.rows (blV (Sy.rows c) 5)) 16)
  have w2 := wr_i64 (8 * IntKind.wrap .i64 (gB (Sy.rows (blV (Sy.rows c) 5)) 16))
  have w3 := wr_i64 (17 + IntKind.wrap .i64 (8 * IntKind.wrap .i64 (gB (Sy.rows (blV (Sy.rows c) 5)) 16)))
  refine ⟨?_, fun h0 => ?_⟩
  ·
   first
   | exact okR_isB hB
   | exact okR_rl _
   | exact ⟨hc.1, by omega⟩
   | omega
   | (have hs := hdS (X := bx (Sy.rows c)) (by omega)
      first
      | exact ⟨okR_isB hB, by simp⟩
      | (refine ⟨okR_rl _, ?_⟩
         rw [hs.1]
         simp
         done)
      | (refine ⟨okR_rl _, ?_⟩
         rw [hs.1]
         simp [hs.2]))
  ·
   refine ⟨fun h1 => ?_, fun h1 => ?_⟩
   ·
    rcases s1 with ⟨E, x, B0, T0, L0⟩ | ⟨x, E, r, B0, T0, L0⟩ | ⟨x, E, hl, hm, B0, T0, L0⟩
    · first
      | (exfalso; omega)
      | rw [E, B0, T0, L0]
    · first
      | (exfalso; omega)
      | rw [E, B0, T0, L0]
    · exfalso; omega
   ·
    refine ⟨fun h2 => ?_, fun h2 => ?_⟩
    ·
     rcases s1 with ⟨E, x, B0, T0, L0⟩ | ⟨x, E, r, B0, T0, L0⟩ | ⟨x, E, hl, hm, B0, T0, L0⟩
     · first
       | (exfalso; omega)
       | rw [E, B0, T0, L0]
     · first
       | (exfalso; omega)
       | rw [E, B0, T0, L0]
     · exfalso; omega
    ·
     refine ⟨?_, fun h3 => ?_⟩
     ·
      first
      | exact okR_isB hB
      | exact okR_rl _
      | exact ⟨hc.1, by omega⟩
      | omega
      | (have hs := hdS (X := bx (Sy.rows c)) (by omega)
         first
         | exact ⟨okR_isB hB, by simp⟩
         | (refine ⟨okR_rl _, ?_⟩
            rw [hs.1]
            simp
            done)
         | (refine ⟨okR_rl _, ?_⟩
            rw [hs.1]
            simp [hs.2]))
     ·
      refine ⟨fun h4 => ?_, fun h4 => ?_⟩
      ·
       rcases s1 with ⟨E, x, B0, T0, L0⟩ | ⟨x, E, r, B0, T0, L0⟩ | ⟨x, E, hl, hm, B0, T0, L0⟩
       · first
         | (exfalso; omega)
         | rw [E, B0, T0, L0]
       · first
         | (exfalso; omega)
         | rw [E, B0, T0, L0]
       · exfalso; omega
      ·
       refine ⟨?_, fun h5 => ?_⟩
       ·
        first
        | exact okR_isB hB
        | exact okR_rl _
        | exact ⟨hc.1, by omega⟩
        | omega
        | (have hs := hdS (X := bx (Sy.rows c)) (by omega)
           first
           | exact ⟨okR_isB hB, by simp⟩
           | (refine ⟨okR_rl _, ?_⟩
              rw [hs.1]
              simp
              done)
           | (refine ⟨okR_rl _, ?_⟩
              rw [hs.1]
              simp [hs.2]))
       ·
        refine ⟨?_, fun h6 => ?_⟩
        ·
         first
         | exact okR_isB hB
         | exact okR_rl _
         | exact ⟨hc.1, by omega⟩
         | omega
         | (have hs := hdS (X := bx (Sy.rows c)) (by omega)
            first
            | exact ⟨okR_isB hB, by simp⟩
            | (refine ⟨okR_rl _, ?_⟩
               rw [hs.1]
               simp
               done)
            | (refine ⟨okR_rl _, ?_⟩
               rw [hs.1]
               simp [hs.2]))
        ·
         refine ⟨?_, fun h7 => ?_⟩
         ·
          first
          | exact okR_isB hB
          | exact okR_rl _
          | exact ⟨hc.1, by omega⟩
          | omega
          | (have hs := hdS (X := bx (Sy.rows c)) (by omega)
             first
             | exact ⟨okR_isB hB, by simp⟩
             | (refine ⟨okR_rl _, ?_⟩
                rw [hs.1]
                simp
                done)
             | (refine ⟨okR_rl _, ?_⟩
                rw [hs.1]
                simp [hs.2]))
         ·
          refine ⟨?_, ?_⟩
          ·
           exact ⟨by omega, by omega, okR_rl _, dst_iff.2 ⟨rfl, rfl, rfl⟩⟩
          ·
           intro i0a i0b i0c i0d hi0
           refine ⟨fun h8 => ?_, fun h8 => ?_⟩
           ·
            refine ⟨?_, fun h9 => ?_⟩
            ·
             first
             | omega
             | exact hi0.2.2.1
             | (have hd := dst_iff.1 hi0.2.2.2
                rw [hd.1, rowsI_rows, List.length_map, numsX_len]
                omega)
             | (have hd := dst_iff.1 hi0.2.2.2
                refine ⟨hi0.2.2.1, ?_⟩
                rw [hd.2.2, rest_eq, if_pos (by omega)]
                simp)
            ·
             refine ⟨?_, fun h10 => ?_⟩
             ·
              first
              | omega
              | exact hi0.2.2.1
              | (have hd := dst_iff.1 hi0.2.2.2
                 rw [hd.1, rowsI_rows, List.length_map, numsX_len]
                 omega)
              | (have hd := dst_iff.1 hi0.2.2.2
                 refine ⟨hi0.2.2.1, ?_⟩
                 rw [hd.2.2, rest_eq, if_pos (by omega)]
                 simp)
             ·
              refine ⟨?_, ?_⟩
              ·
               obtain ⟨q0, q1, q2, q3⟩ := hi0
               obtain ⟨d1, d2, d3⟩ := dst_iff.1 q3
               have hw : IntKind.wrap .i64 (i0a + 1) = i0a + 1 := by have := wr_i64 (i0a + 1); omega
               rw [hw, toNat_succ (by omega)]
               refine ⟨by omega, by omega, okR_rl _, dst_iff.2 ⟨?_, ?_, ?_⟩⟩
               · rw [d1, d2, rl_eq]
                 exact rowsI_snoc _ _
               · rw [d2, rl_eq]
                 rfl
               · rw [d2, d3, rl_eq]
                 rfl
              ·
               have := wr_i64 (i0a + 1)
               omega
           ·
            refine ⟨fun h11 => ?_, fun h11 => ?_⟩
            ·
             obtain ⟨q0, q1, q2, q3⟩ := hi0
             have hj : i0a.toNat = hdN (bx (Sy.rows c)) := by omega
             rw [hj] at q3
             obtain ⟨d1, d2, d3⟩ := dst_iff.1 q3
             have hM : mayI (rdI (bx (Sy.rows c))) (rdI (getL (bx (Sy.rows c)) 8)) (intsOf i0c) = mayI (hdBs (bx (Sy.rows c))) (hdT (bx (Sy.rows c))) (numsX (bx (Sy.rows c)) (hdN (bx (Sy.rows c)))) := by rw [d1, ints_rowsI]; rfl
             rcases s1 with ⟨_, x, _⟩ | ⟨x, E, r, B0, T0, L0⟩ | ⟨x, E, hl, hm, B0, T0, L0⟩
             · exfalso; omega
             · first
               | (exfalso; omega)
               | rw [E, B0, T0, L0]
             · first
               | (exfalso; omega)
               | (rw [E, B0, T0, L0, d1]
                  done)
               | (rw [E, B0, T0, L0, d1]
                  rfl)
            ·
             obtain ⟨q0, q1, q2, q3⟩ := hi0
             have hj : i0a.toNat = hdN (bx (Sy.rows c)) := by omega
             rw [hj] at q3
             obtain ⟨d1, d2, d3⟩ := dst_iff.1 q3
             have hM : mayI (rdI (bx (Sy.rows c))) (rdI (getL (bx (Sy.rows c)) 8)) (intsOf i0c) = mayI (hdBs (bx (Sy.rows c))) (hdT (bx (Sy.rows c))) (numsX (bx (Sy.rows c)) (hdN (bx (Sy.rows c)))) := by rw [d1, ints_rowsI]; rfl
             rcases s1 with ⟨_, x, _⟩ | ⟨x, E, r, B0, T0, L0⟩ | ⟨x, E, hl, hm, B0, T0, L0⟩
             · exfalso; omega
             · first
               | (exfalso; omega)
               | rw [E, B0, T0, L0]
             · first
               | (exfalso; omega)
               | (rw [E, B0, T0, L0, d1]
                  done)
               | (rw [E, B0, T0, L0, d1]
                  rfl)
theorem ylg_rdec : ylc_rdec.Good Tryd.prog syG (ylE [] [] [] []) := good_of_walk (Γ := ⟨[zb6c_ropen, yfc_rmay9, ylc_rtake8, ylc_rtake1], syG, [], [], []⟩) (ρ := ylE [] [] [] []) sym rdec_w rfl (fun _ _ _ _ => (ok_cons (Con.Good.env (Con.Good.up (Con.Good.up zb6g_ropen yfup rfl) ylup rfl) _ _ _ _) (ok_cons (Con.Good.env (Con.Good.up yfg_rmay9 ylup rfl) _ _ _ _) (ok_cons (Con.Good.env ylg_rtake8 _ _ _ _) (ok_cons (Con.Good.env ylg_rtake1 _ _ _ _) ok_nil))))) (fun c hc hty => rdec_h c hc hty)
end Go.Proofs.YtbjgopehomnpgaaDoor
