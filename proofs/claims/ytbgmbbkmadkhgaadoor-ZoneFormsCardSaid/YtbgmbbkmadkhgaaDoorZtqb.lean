/-
  Texts in blobs.
-/
import Derived.Test.YtbgmbbkmadkhgaaDoorSycqb
import Derived.Test.YtbgmbbkmadkhgaaDoorZzqb
import Derived.Test.YtbgmbbkmadkhgaaDoorRdtqb
import Derived.Test.YtbgmbbkmadkhgaaDoorN09lqb
import Derived.Test.YtbgmbbkmadkhgaaDoorTxgqb
namespace Go.Proofs.YtbgmbbkmadkhgaaDoor
open Go.RowKit Go.Extern.Stop Go.Stop Go.Extern Go.Proofs.YtbgmbbkmadkhgaaDoor.Sy
set_option linter.unusedVariables false
set_option linter.unusedSimpArgs false
theorem getTL_le (l : List UInt8) : (getTL l).length ≤ l.length := Nat.le_trans (getL_le _ _) (getL_le _ _)
def txV (s : ByteArray) : List Value := .int .u8 ((s.size : Int) % 256) :: s.data.toList.map byteV
theorem ptx_eq {L : List Value} (h : isB L) (s : ByteArray) : (byL L ++ txt s).map bV = L ++ txV s := by
  rw [List.map_append, h.by]
  refine congrArg (fun z => L ++ z) ?_
  have e1 : (leB s.size 1).map bV = [.int .u8 ((s.size : Int) % 256)] := by
    simp [leB, bV]
  show (leB s.size 1 ++ sB s).map bV = _
  rw [List.map_append, e1]
  rfl
theorem rows_nil : Sy.rows (Value.tuple #[]) = [] := rfl
theorem rows_arr (l : List Value) : Sy.rows (Value.tuple l.toArray) = l := rfl
theorem put_rows (l : List Value) (v : Int) (n : Nat) : Sy.rows (putV l v n) = l ++ numB v n := rfl
theorem rl_eq (l : List UInt8) : byL (Sy.rows (Value.tuple (l.map bV).toArray)) = l := byL_bV l
theorem getT_no {l : List UInt8} {s : Bool} (h : (getL l 1).length < getV l 1) : getT l = [] ∧ getTL l = [] ∧ getTS l s = true := by
  unfold getT getTL getTS
  refine ⟨if_neg (by omega), ?_, ?_⟩
  · rw [getL, if_neg (by omega)]
  · rw [getS, if_neg (by omega)]
theorem getT_nil (s : Bool) : getT [] = [] ∧ getTL [] = [] ∧ getTS [] s = true := by cases s <;> exact ⟨rfl, rfl, rfl⟩
theorem t8 : Int.toNat 8 = 8 := rfl
theorem t1 : Int.toNat 1 = 1 := rfl
noncomputable def ztI : Nat → List Value → Int
  | i, l => zzI i l
noncomputable def ztB : Nat → List Value → Bool
  | 9, [l, .bool s] => getTS (byL (rows l)) s
  | i, l => zzB i l
noncomputable def ztV : Nat → List Value → Value
  | 9, [l] => .string ⟨(getT (byL (rows l))).toArray⟩
  | 10, [l] => Value.tuple ((getTL (byL (rows l))).map bV).toArray
  | 11, [l, .string s] => .tuple ((byL (rows l) ++ txt s).map bV).toArray
  | i, l => zzV i l
noncomputable abbrev ztE (iv : List Int) (bv : List Bool) (vv : List Value) (sv : List ByteArray) : Env := { iv := iv, bv := bv, vv := vv, sv := sv, fi := ztI, fb := ztB, fv := ztV, et := 203 }
set_option maxHeartbeats 8000000 in
theorem ztup : Agree 13 9 9 (zzE [] [] [] []) (ztE [] [] [] []) := ⟨rfl, (by
    intro f hf
    funext l
    show ztI f l = zzI f l
    unfold ztI
    split <;> first | rfl | omega), (by
    intro f hf
    funext l
    show ztB f l = zzB f l
    unfold ztB
    split <;> first | rfl | omega), (by
    intro f hf
    funext l
    show ztV f l = zzV f l
    unfold ztV
    split <;> first | rfl | omega)⟩
theorem zti_rn (l : Value) (k1 : IntKind) (k : Int) : ztI 0 [l, .int k1 k] = ((getV (byL (rows l)) k.toNat : Nat) : Int) := rfl
theorem ztb_okr (l : Value) : ztB 0 [l] = okR (rows l) := rfl
theorem ztb_rs (l : Value) (s : Bool) (k1 : IntKind) (k : Int) : ztB 1 [l, .bool s, .int k1 k] = getS (byL (rows l)) s k.toNat := rfl
theorem ztb_ts (l : Value) (s : Bool) : ztB 9 [l, .bool s] = getTS (byL (rows l)) s := rfl
theorem ztv_rl (l : Value) (k1 : IntKind) (k : Int) : ztV 0 [l, .int k1 k] = Value.tuple ((getL (byL (rows l)) k.toNat).map bV).toArray := rfl
theorem ztv_p1 (l : Value) (k1 : IntKind) (v : Int) : ztV 3 [l, .int k1 v] = putV (rows l) v 1 := rfl
theorem ztv_p8 (l : Value) (k1 : IntKind) (v : Int) : ztV 6 [l, .int k1 v] = putV (rows l) v 8 := rfl
theorem ztv_tx (l : Value) : ztV 9 [l] = .string ⟨(getT (byL (rows l))).toArray⟩ := rfl
theorem ztv_tl (l : Value) : ztV 10 [l] = Value.tuple ((getTL (byL (rows l))).map bV).toArray := rfl
theorem ztv_ptx (l : Value) (s : ByteArray) : ztV 11 [l, .string s] = .tuple ((byL (rows l) ++ txt s).map bV).toArray := rfl
abbrev ztc_text : MCon := ⟨140, 0, [(.hs .no (.cons (.int .u8) .nil) o0_), (.bool (.bvar 0))], (.bapp 0 (.cons o0_ .nil)), (.sapp 9 (.cons o0_ .nil)), [(.hs .no (.cons (.int .u8) .nil) (.vapp 10 (.cons o0_ .nil))), (.bool (.bapp 9 (.cons o0_ (.cons (.bool (.bvar 0)) .nil))))], ⟨0, 1, 1, 0⟩⟩
theorem ztg_text : ztc_text.Good Tryd.prog syG (ztE [] [] [] []) := by
  exact get_good (fun l => .string ⟨(getT l).toArray⟩) getTL getTS (fun Q w g l sh h hl => getT_cG Q w g l sh h hl) getTL_le (fun c sh h => okR_iff.1 h) (fun _ _ _ _ _ _ => rfl) (fun _ _ _ => rfl) (fun _ _ _ _ _ _ => rfl)
def i64p_tree : Tree :=
 (.need (an_ (le_ (.ofI (.vop (.len 1) (.cons o0_ .nil))) (.lit 140737488355000)) (an_ (le_ (.lit 0) (.wrap .u64 v0_)) (le_ (.wrap .u64 v0_) (.lit 18446744073709551615))))
 (.ret (.hs (.new 5) (.cons (.int .u8) .nil) (.vapp 6 (.cons o0_ (.cons (.int .i64 (.wrap .u64 v0_)) .nil))))))
abbrev ztc_i64p : Con := ⟨134, [(.hs .no (.cons (.int .u8) .nil) o0_), z0_], (an_ (le_ (.ofI (.vop (.len 1) (.cons o0_ .nil))) (.lit 70368744177664)) (an_ (le_ lm_ v0_) (le_ v0_ lM_))), (.hs (.new 5) (.cons (.int .u8) .nil) (.vapp 6 (.cons o0_ (.cons z0_ .nil)))), ⟨1, 0, 1, 0⟩, none⟩
theorem i64p_w : walk Tryd.prog 203 ⟨[z6c_num8], syG, [], [], []⟩ [] (.o 5 (.cons (.int .u8) .nil)) ztc_i64p ztc_i64p.n 3000 = some i64p_tree := by kernel_rfl
theorem i64p_h (v : Int) (l : Value) (hc : holds (ztE [v] [] [l] []) (an_ (le_ (.ofI (.vop (.len 1) (.cons o0_ .nil))) (.lit 70368744177664)) (an_ (le_ lm_ v0_) (le_ v0_ lM_)))) (hty : patsTyp (ztE [v] [] [l] []) [(.hs .no (.cons (.int .u8) .nil) o0_), z0_]) : i64p_tree.holds (fun v_ => v_ = denV (ztE [v] [] [l] []) b0 (.hs (.new 5) (.cons (.int .u8) .nil) (.vapp 6 (.cons o0_ (.cons z0_ .nil))))) (ztE [v] [] [l] []) := by
  simp only [Tree.holds, Sy.holds, AllN, Env.more, ztE, List.cons_append, List.nil_append, List.append_nil, denV, denI, denB, denL, I2.den, VOp.den, List.getD_cons_zero, List.getD_cons_succ, Cst.den, syso, syse, syio, sybo, List.map_nil, List.map_cons, B2.ofInts, B2.denI, B2.denB, if_true, Bool.false_eq_true, if_false, Nat.div_one, Nat.mul_one, Nat.add_zero, holds] at hc
  simp only [patsTyp, patTyp, patTypL, ztE, denV, denL, List.getD_cons_zero, List.getD_cons_succ, and_true, true_and] at hty
  have hL_l : typ (.sl (.cons (.int .u8) .nil)) l := by first | exact hty | exact hty.1 | exact hty.2 | exact hty.1.1 | exact hty.1.2 | exact hty.2.1 | exact hty.2.2 | exact hty.2.2.1 | exact hty.2.2.2
  have hN_l := typ_len (n := 1) hL_l rfl (by omega)
  simp only [Nat.div_one, Nat.mul_one] at hN_l
  unfold i64p_tree
  simp only [Tree.holds, Sy.holds, AllN, Env.more, ztE, List.cons_append, List.nil_append, List.append_nil, denV, denI, denB, denL, I2.den, VOp.den, List.getD_cons_zero, List.getD_cons_succ, Cst.den, syso, syse, syio, sybo, ztv_p8, List.map_nil, List.map_cons, B2.ofInts, B2.denI, B2.denB, if_true, Bool.false_eq_true, if_false, Nat.div_one, Nat.mul_one, Nat.add_zero]
  have wf0 := wr_u64 v
  refine ⟨?_, fun h0 => ?_⟩
  ·
   first
   | omega
   | (have := wr_u64 v
      omega)
  ·
   try simp only [hw0]
   unfold putV
   rw [numB_u64 (by omega) (by omega)]
theorem ztg_i64p : ztc_i64p.Good Tryd.prog syG (ztE [] [] [] []) := good_of_walk (Γ := ⟨[z6c_num8], syG, [], [], []⟩) (ρ := ztE [] [] [] []) sym i64p_w rfl (fun _ _ _ _ => (ok_cons (Con.Good.env (Con.Good.up (Con.Good.up (Con.Good.up z6g_num8 zb6up rfl) zzup rfl) ztup rfl) _ _ _ _) ok_nil)) (fun v l hc hty => i64p_h v l hc hty)
def rput1_tree : Tree :=
 (.need (le_ (ad_ (.lit 0) (.ofI (.vop (.len 1) (.cons o0_ .nil)))) (.lit 140737488355328))
 (.need (le_ (ad_ (.ofI (.vop (.len 1) (.cons o0_ .nil))) (.lit 1)) (.lit 140737488355328))
 (.ret (.hs (.new 5) (.cons (.int .u8) .nil) (.vop .cat (.cons o0_ (.cons (.tup (.cons (.int .u8 (.wrap .u8 (.i2 .rem v0_ (.lit 256)))) .nil)) .nil)))))))
abbrev ztc_rput1 : Con := ⟨137, [(.hs .no (.cons (.int .u8) .nil) o0_), (.int .u64 v0_), (.int .i64 (.lit 1))], (an_ (le_ (.ofI (.vop (.len 1) (.cons o0_ .nil))) (.lit 70368744177664)) (an_ (le_ (.lit 0) v0_) (le_ v0_ (.lit 18446744073709551615)))), (.hs (.new 5) (.cons (.int .u8) .nil) (.vapp 3 (.cons o0_ (.cons (.int .u64 v0_) .nil)))), ⟨1, 0, 1, 0⟩, none⟩
theorem rput1_w : walk Tryd.prog 203 ⟨[], syG, [], [], []⟩ [] (.o 5 (.cons (.int .u8) .nil)) ztc_rput1 ztc_rput1.n 3000 = some rput1_tree := by kernel_rfl
theorem rput1_h (v : Int) (l : Value) (hc : holds (ztE [v] [] [l] []) (an_ (le_ (.ofI (.vop (.len 1) (.cons o0_ .nil))) (.lit 70368744177664)) (an_ (le_ (.lit 0) v0_) (le_ v0_ (.lit 18446744073709551615))))) (hty : patsTyp (ztE [v] [] [l] []) [(.hs .no (.cons (.int .u8) .nil) o0_), (.int .u64 v0_), (.int .i64 (.lit 1))]) : rput1_tree.holds (fun v_ => v_ = denV (ztE [v] [] [l] []) b0 (.hs (.new 5) (.cons (.int .u8) .nil) (.vapp 3 (.cons o0_ (.cons (.int .u64 v0_) .nil))))) (ztE [v] [] [l] []) := by
  simp only [Tree.holds, Sy.holds, AllN, Env.more, ztE, List.cons_append, List.nil_append, List.append_nil, denV, denI, denB, denL, I2.den, VOp.den, List.getD_cons_zero, List.getD_cons_succ, Cst.den, syso, syse, syio, sybo, List.map_nil, List.map_cons, B2.ofInts, B2.denI, B2.denB, if_true, Bool.false_eq_true, if_false, Nat.div_one, Nat.mul_one, Nat.add_zero, holds] at hc
  simp only [patsTyp, patTyp, patTypL, ztE, denV, denL, List.getD_cons_zero, List.getD_cons_succ, and_true, true_and] at hty
  have hL_l : typ (.sl (.cons (.int .u8) .nil)) l := by first | exact hty | exact hty.1 | exact hty.2 | exact hty.1.1 | exact hty.1.2 | exact hty.2.1 | exact hty.2.2 | exact hty.2.2.1 | exact hty.2.2.2
  have hN_l := typ_len (n := 1) hL_l rfl (by omega)
  simp only [Nat.div_one, Nat.mul_one] at hN_l
  unfold rput1_tree
  simp only [Tree.holds, Sy.holds, AllN, Env.more, ztE, List.cons_append, List.nil_append, List.append_nil, denV, denI, denB, denL, I2.den, VOp.den, List.getD_cons_zero, List.getD_cons_succ, Cst.den, syso, syse, syio, sybo, ztv_p1, List.map_nil, List.map_cons, B2.ofInts, B2.denI, B2.denB, if_true, Bool.false_eq_true, if_false, Nat.div_one, Nat.mul_one, Nat.add_zero]
  refine ⟨?_, fun h0 => ?_⟩
  ·
   first
   | omega
   | (simp only [rows_tup, List.length_append, List.length_cons, List.length_nil, List.size_toArray]
      omega)
   | exact hc.1
  ·
   refine ⟨?_, fun h1 => ?_⟩
   ·
    first
    | omega
    | (simp only [rows_tup, List.length_append, List.length_cons, List.length_nil, List.size_toArray]
       omega)
    | exact hc.1
   ·
    simp only [rows_tup, List.append_assoc, List.cons_append, List.nil_append, putV]
    simp only [wrap_u8, tm8 (show 0 ≤ v by omega), Int.emod_emod]
    refine tup_congr ?_
    simp only [numB]
theorem ztg_rput1 : ztc_rput1.Good Tryd.prog syG (ztE [] [] [] []) := good_of_walk (Γ := ⟨[], syG, [], [], []⟩) (ρ := ztE [] [] [] []) sym rput1_w rfl (fun _ _ _ _ => ok_nil) (fun v l hc hty => rput1_h v l hc hty)
def rput8_tree : Tree :=
 (.need (le_ (ad_ (.lit 0) (.ofI (.vop (.len 1) (.cons o0_ .nil)))) (.lit 140737488355328))
 (.need (le_ (ad_ (.ofI (.vop (.len 1) (.cons o0_ .nil))) (.lit 1)) (.lit 140737488355328))
 (.need (le_ (ad_ (.ofI (.vop (.len 1) (.cons (.vop .cat (.cons o0_ (.cons (.tup (.cons (.int .u8 (.wrap .u8 (.i2 .rem v0_ (.lit 256)))) .nil)) .nil))) .nil))) (.lit 1)) (.lit 140737488355328))
 (.need (le_ (ad_ (.ofI (.vop (.len 1) (.cons (.vop .cat (.cons (.vop .cat (.cons o0_ (.cons (.tup (.cons (.int .u8 (.wrap .u8 (.i2 .rem v0_ (.lit 256)))) .nil)) .nil))) (.cons (.tup (.cons (.int .u8 (.wrap .u8 (.i2 .rem (.wrap .u64 (.i2 .quo v0_ (.lit 256))) (.lit 256)))) .nil)) .nil))) .nil))) (.lit 1)) (.lit 140737488355328))
 (.need (le_ (ad_ (.ofI (.vop (.len 1) (.cons (.vop .cat (.cons (.vop .cat (.cons (.vop .cat (.cons o0_ (.cons (.tup (.cons (.int .u8 (.wrap .u8 (.i2 .rem v0_ (.lit 256)))) .nil)) .nil))) (.cons (.tup (.cons (.int .u8 (.wrap .u8 (.i2 .rem (.wrap .u64 (.i2 .quo v0_ (.lit 256))) (.lit 256)))) .nil)) .nil))) (.cons (.tup (.cons (.int .u8 (.wrap .u8 (.i2 .rem (.wrap .u64 (.i2 .quo (.wrap .u64 (.i2 .quo v0_ (.lit 256))) (.lit 256))) (.lit 256)))) .nil)) .nil))) .nil))) (.lit 1)) (.lit 140737488355328))
 (.need (le_ (ad_ (.ofI (.vop (.len 1) (.cons (.vop .cat (.cons (.vop .cat (.cons (.vop .cat (.cons (.vop .cat (.cons o0_ (.cons (.tup (.cons (.int .u8 (.wrap .u8 (.i2 .rem v0_ (.lit 256)))) .nil)) .nil))) (.cons (.tup (.cons (.int .u8 (.wrap .u8 (.i2 .rem (.wrap .u64 (.i2 .quo v0_ (.lit 256))) (.lit 256)))) .nil)) .nil))) (.cons (.tup (.cons (.int .u8 (.wrap .u8 (.i2 .rem (.wrap .u64 (.i2 .quo (.wrap .u64 (.i2 .quo v0_ (.lit 256))) (.lit 256))) (.lit 256)))) .nil)) .nil))) (.cons (.tup (.cons (.int .u8 (.wrap .u8 (.i2 .rem (.wrap .u64 (.i2 .quo (.wrap .u64 (.i2 .quo (.wrap .u64 (.i2 .quo v0_ (.lit 256))) (.lit 256))) (.lit 256))) (.lit 256)))) .nil)) .nil))) .nil))) (.lit 1)) (.lit 140737488355328))
 (.need (le_ (ad_ (.ofI (.vop (.len 1) (.cons (.vop .cat (.cons (.vop .cat (.cons (.vop .cat (.cons (.vop .cat (.cons (.vop .cat (.cons o0_ (.cons (.tup (.cons (.int .u8 (.wrap .u8 (.i2 .rem v0_ (.lit 256)))) .nil)) .nil))) (.cons (.tup (.cons (.int .u8 (.wrap .u8 (.i2 .rem (.wrap .u64 (.i2 .quo v0_ (.lit 256))) (.lit 256)))) .nil)) .nil))) (.cons (.tup (.cons (.int .u8 (.wrap .u8 (.i2 .rem (.wrap .u64 (.i2 .quo (.wrap .u64 (.i2 .quo v0_ (.lit 256))) (.lit 256))) (.lit 256)))) .nil)) .nil))) (.cons (.tup (.cons (.int .u8 (.wrap .u8 (.i2 .rem (.wrap .u64 (.i2 .quo (.wrap .u64 (.i2 .quo (.wrap .u64 (.i2 .quo v0_ (.lit 256))) (.lit 256))) (.lit 256))) (.lit 256)))) .nil)) .nil))) (.cons (.tup (.cons (.int .u8 (.wrap .u8 (.i2 .rem (.wrap .u64 (.i2 .quo (.wrap .u64 (.i2 .quo (.wrap .u64 (.i2 .quo (.wrap .u64 (.i2 .quo v0_ (.lit 256))) (.lit 256))) (.lit 256))) (.lit 256))) (.lit 256)))) .nil)) .nil))) .nil))) (.lit 1)) (.lit 140737488355328))
 (.need (le_ (ad_ (.ofI (.vop (.len 1) (.cons (.vop .cat (.cons (.vop .cat (.cons (.vop .cat (.cons (.vop .cat (.cons (.vop .cat (.cons (.vop .cat (.cons o0_ (.cons (.tup (.cons (.int .u8 (.wrap .u8 (.i2 .rem v0_ (.lit 256)))) .nil)) .nil))) (.cons (.tup (.cons (.int .u8 (.wrap .u8 (.i2 .rem (.wrap .u64 (.i2 .quo v0_ (.lit 256))) (.lit 256)))) .nil)) .nil))) (.cons (.tup (.cons (.int .u8 (.wrap .u8 (.i2 .rem (.wrap .u64 (.i2 .quo (.wrap .u64 (.i2 .quo v0_ (.lit 256))) (.lit 256))) (.lit 256)))) .nil)) .nil))) (.cons (.tup (.cons (.int .u8 (.wrap .u8 (.i2 .rem (.wrap .u64 (.i2 .quo (.wrap .u64 (.i2 .quo (.wrap .u64 (.i2 .quo v0_ (.lit 256))) (.lit 256))) (.lit 256))) (.lit 256)))) .nil)) .nil))) (.cons (.tup (.cons (.int .u8 (.wrap .u8 (.i2 .rem (.wrap .u64 (.i2 .quo (.wrap .u64 (.i2 .quo (.wrap .u64 (.i2 .quo (.wrap .u64 (.i2 .quo v0_ (.lit 256))) (.lit 256))) (.lit 256))) (.lit 256))) (.lit 256)))) .nil)) .nil))) (.cons (.tup (.cons (.int .u8 (.wrap .u8 (.i2 .rem (.wrap .u64 (.i2 .quo (.wrap .u64 (.i2 .quo (.wrap .u64 (.i2 .quo (.wrap .u64 (.i2 .quo (.wrap .u64 (.i2 .quo v0_ (.lit 256))) (.lit 256))) (.lit 256))) (.lit 256))) (.lit 256))) (.lit 256)))) .nil)) .nil))) .nil))) (.lit 1)) (.lit 140737488355328))
 (.need (le_ (ad_ (.ofI (.vop (.len 1) (.cons (.vop .cat (.cons (.vop .cat (.cons (.vop .cat (.cons (.vop .cat (.cons (.vop .cat (.cons (.vop .cat (.cons (.vop .cat (.cons o0_ (.cons (.tup (.cons (.int .u8 (.wrap .u8 (.i2 .rem v0_ (.lit 256)))) .nil)) .nil))) (.cons (.tup (.cons (.int .u8 (.wrap .u8 (.i2 .rem (.wrap .u64 (.i2 .quo v0_ (.lit 256))) (.lit 256)))) .nil)) .nil))) (.cons (.tup (.cons (.int .u8 (.wrap .u8 (.i2 .rem (.wrap .u64 (.i2 .quo (.wrap .u64 (.i2 .quo v0_ (.lit 256))) (.lit 256))) (.lit 256)))) .nil)) .nil))) (.cons (.tup (.cons (.int .u8 (.wrap .u8 (.i2 .rem (.wrap .u64 (.i2 .quo (.wrap .u64 (.i2 .quo (.wrap .u64 (.i2 .quo v0_ (.lit 256))) (.lit 256))) (.lit 256))) (.lit 256)))) .nil)) .nil))) (.cons (.tup (.cons (.int .u8 (.wrap .u8 (.i2 .rem (.wrap .u64 (.i2 .quo (.wrap .u64 (.i2 .quo (.wrap .u64 (.i2 .quo (.wrap .u64 (.i2 .quo v0_ (.lit 256))) (.lit 256))) (.lit 256))) (.lit 256))) (.lit 256)))) .nil)) .nil))) (.cons (.tup (.cons (.int .u8 (.wrap .u8 (.i2 .rem (.wrap .u64 (.i2 .quo (.wrap .u64 (.i2 .quo (.wrap .u64 (.i2 .quo (.wrap .u64 (.i2 .quo (.wrap .u64 (.i2 .quo v0_ (.lit 256))) (.lit 256))) (.lit 256))) (.lit 256))) (.lit 256))) (.lit 256)))) .nil)) .nil))) (.cons (.tup (.cons (.int .u8 (.wrap .u8 (.i2 .rem (.wrap .u64 (.i2 .quo (.wrap .u64 (.i2 .quo (.wrap .u64 (.i2 .quo (.wrap .u64 (.i2 .quo (.wrap .u64 (.i2 .quo (.wrap .u64 (.i2 .quo v0_ (.lit 256))) (.lit 256))) (.lit 256))) (.lit 256))) (.lit 256))) (.lit 256))) (.lit 256)))) .nil)) .nil))) .nil))) (.lit 1)) (.lit 140737488355328))
 (.ret (.hs (.new 5) (.cons (.int .u8) .nil) (.vop .cat (.cons (.vop .cat (.cons (.vop .cat (.cons (.vop .cat (.cons (.vop .cat (.cons (.vop .cat (.cons (.vop .cat (.cons (.vop .cat (.cons o0_ (.cons (.tup (.cons (.int .u8 (.wrap .u8 (.i2 .rem v0_ (.lit 256)))) .nil)) .nil))) (.cons (.tup (.cons (.int .u8 (.wrap .u8 (.i2 .rem (.wrap .u64 (.i2 .quo v0_ (.lit 256))) (.lit 256)))) .nil)) .nil))) (.cons (.tup (.cons (.int .u8 (.wrap .u8 (.i2 .rem (.wrap .u64 (.i2 .quo (.wrap .u64 (.i2 .quo v0_ (.lit 256))) (.lit 256))) (.lit 256)))) .nil)) .nil))) (.cons (.tup (.cons (.int .u8 (.wrap .u8 (.i2 .rem (.wrap .u64 (.i2 .quo (.wrap .u64 (.i2 .quo (.wrap .u64 (.i2 .quo v0_ (.lit 256))) (.lit 256))) (.lit 256))) (.lit 256)))) .nil)) .nil))) (.cons (.tup (.cons (.int .u8 (.wrap .u8 (.i2 .rem (.wrap .u64 (.i2 .quo (.wrap .u64 (.i2 .quo (.wrap .u64 (.i2 .quo (.wrap .u64 (.i2 .quo v0_ (.lit 256))) (.lit 256))) (.lit 256))) (.lit 256))) (.lit 256)))) .nil)) .nil))) (.cons (.tup (.cons (.int .u8 (.wrap .u8 (.i2 .rem (.wrap .u64 (.i2 .quo (.wrap .u64 (.i2 .quo (.wrap .u64 (.i2 .quo (.wrap .u64 (.i2 .quo (.wrap .u64 (.i2 .quo v0_ (.lit 256))) (.lit 256))) (.lit 256))) (.lit 256))) (.lit 256))) (.lit 256)))) .nil)) .nil))) (.cons (.tup (.cons (.int .u8 (.wrap .u8 (.i2 .rem (.wrap .u64 (.i2 .quo (.wrap .u64 (.i2 .quo (.wrap .u64 (.i2 .quo (.wrap .u64 (.i2 .quo (.wrap .u64 (.i2 .quo (.wrap .u64 (.i2 .quo v0_ (.lit 256))) (.lit 256))) (.lit 256))) (.lit 256))) (.lit 256))) (.lit 256))) (.lit 256)))) .nil)) .nil))) (.cons (.tup (.cons (.int .u8 (.wrap .u8 (.i2 .rem (.wrap .u64 (.i2 .quo (.wrap .u64 (.i2 .quo (.wrap .u64 (.i2 .quo (.wrap .u64 (.i2 .quo (.wrap .u64 (.i2 .quo (.wrap .u64 (.i2 .quo (.wrap .u64 (.i2 .quo v0_ (.lit 256))) (.lit 256))) (.lit 256))) (.lit 256))) (.lit 256))) (.lit 256))) (.lit 256))) (.lit 256)))) .nil)) .nil))))))))))))))
abbrev ztc_rput8 : Con := ⟨137, [(.hs .no (.cons (.int .u8) .nil) o0_), (.int .u64 v0_), (.int .i64 (.lit 8))], (an_ (le_ (.ofI (.vop (.len 1) (.cons o0_ .nil))) (.lit 70368744177664)) (an_ (le_ (.lit 0) v0_) (le_ v0_ (.lit 18446744073709551615)))), (.hs (.new 5) (.cons (.int .u8) .nil) (.vapp 6 (.cons o0_ (.cons (.int .u64 v0_) .nil)))), ⟨1, 0, 1, 0⟩, none⟩
theorem rput8_w : walk Tryd.prog 203 ⟨[], syG, [], [], []⟩ [] (.o 5 (.cons (.int .u8) .nil)) ztc_rput8 ztc_rput8.n 3000 = some rput8_tree := by kernel_rfl
theorem rput8_h (v : Int) (l : Value) (hc : holds (ztE [v] [] [l] []) (an_ (le_ (.ofI (.vop (.len 1) (.cons o0_ .nil))) (.lit 70368744177664)) (an_ (le_ (.lit 0) v0_) (le_ v0_ (.lit 18446744073709551615))))) (hty : patsTyp (ztE [v] [] [l] []) [(.hs .no (.cons (.int .u8) .nil) o0_), (.int .u64 v0_), (.int .i64 (.lit 8))]) : rput8_tree.holds (fun v_ => v_ = denV (ztE [v] [] [l] []) b0 (.hs (.new 5) (.cons (.int .u8) .nil) (.vapp 6 (.cons o0_ (.cons (.int .u64 v0_) .nil))))) (ztE [v] [] [l] []) := by
  simp only [Tree.holds, Sy.holds, AllN, Env.more, ztE, List.cons_append, List.nil_append, List.append_nil, denV, denI, denB, denL, I2.den, VOp.den, List.getD_cons_zero, List.getD_cons_succ, Cst.den, syso, syse, syio, sybo, List.map_nil, List.map_cons, B2.ofInts, B2.denI, B2.denB, if_true, Bool.false_eq_true, if_false, Nat.div_one, Nat.mul_one, Nat.add_zero, holds] at hc
  simp only [patsTyp, patTyp, patTypL, ztE, denV, denL, List.getD_cons_zero, List.getD_cons_succ, and_true, true_and] at hty
  have hL_l : typ (.sl (.cons (.int .u8) .nil)) l := by first | exact hty | exact hty.1 | exact hty.2 | exact hty.1.1 | exact hty.1.2 | exact hty.2.1 | exact hty.2.2 | exact hty.2.2.1 | exact hty.2.2.2
  have hN_l := typ_len (n := 1) hL_l rfl (by omega)
  simp only [Nat.div_one, Nat.mul_one] at hN_l
  unfold rput8_tree
  simp only [Tree.holds, Sy.holds, AllN, Env.more, ztE, List.cons_append, List.nil_append, List.append_nil, denV, denI, denB, denL, I2.den, VOp.den, List.getD_cons_zero, List.getD_cons_succ, Cst.den, syso, syse, syio, sybo, ztv_p8, List.map_nil, List.map_cons, B2.ofInts, B2.denI, B2.denB, if_true, Bool.false_eq_true, if_false, Nat.div_one, Nat.mul_one, Nat.add_zero]
  refine ⟨?_, fun h0 => ?_⟩
  ·
   first
   | omega
   | (simp only [rows_tup, List.length_append, List.length_cons, List.length_nil, List.size_toArray]
      omega)
   | exact hc.1
  ·
   refine ⟨?_, fun h1 => ?_⟩
   ·
    first
    | omega
    | (simp only [rows_tup, List.length_append, List.length_cons, List.length_nil, List.size_toArray]
       omega)
    | exact hc.1
   ·
    refine ⟨?_, fun h2 => ?_⟩
    ·
     first
     | omega
     | (simp only [rows_tup, List.length_append, List.length_cons, List.length_nil, List.size_toArray]
        omega)
     | exact hc.1
    ·
     try simp only [hw0]
     refine ⟨?_, fun h3 => ?_⟩
     ·
      first
      | omega
      | (simp only [rows_tup, List.length_append, List.length_cons, List.length_nil, List.size_toArray]
         omega)
      | exact hc.1
     ·
      try simp only [hw2]
      try simp only [hw1]
      try simp only [hw0]
      refine ⟨?_, fun h4 => ?_⟩
      ·
       first
       | omega
       | (simp only [rows_tup, List.length_append, List.length_cons, List.length_nil, List.size_toArray]
          omega)
       | exact hc.1
      ·
       try simp only [hw4]
       try simp only [hw3]
       try simp only [hw2]
       try simp only [hw1]
       try simp only [hw0]
       refine ⟨?_, fun h5 => ?_⟩
       ·
        first
        | omega
        | (simp only [rows_tup, List.length_append, List.length_cons, List.length_nil, List.size_toArray]
           omega)
        | exact hc.1
       ·
        try simp only [hw6]
        try simp only [hw5]
        try simp only [hw4]
        try simp only [hw3]
        try simp only [hw2]
        try simp only [hw1]
        try simp only [hw0]
        refine ⟨?_, fun h6 => ?_⟩
        ·
         first
         | omega
         | (simp only [rows_tup, List.length_append, List.length_cons, List.length_nil, List.size_toArray]
            omega)
         | exact hc.1
        ·
         try simp only [hw8]
         try simp only [hw7]
         try simp only [hw6]
         try simp only [hw5]
         try simp only [hw4]
         try simp only [hw3]
         try simp only [hw2]
         try simp only [hw1]
         try simp only [hw0]
         refine ⟨?_, fun h7 => ?_⟩
         ·
          first
          | omega
          | (simp only [rows_tup, List.length_append, List.length_cons, List.length_nil, List.size_toArray]
             omega)
          | exact hc.1
         ·
          try simp only [hw10]
          try simp only [hw9]
          try simp only [hw8]
          try simp only [hw7]
          try simp only [hw6]
          try simp only [hw5]
          try simp only [hw4]
          try simp only [hw3]
          try simp only [hw2]
          try simp only [hw1]
          try simp only [hw0]
          refine ⟨?_, fun h8 => ?_⟩
          ·
           first
           | omega
           | (simp only [rows_tup, List.length_append, List.length_cons, List.length_nil, List.size_toArray]
              omega)
           | exact hc.1
          ·
           try simp only [hw12]
           try simp only [hw11]
           try simp only [hw10]
           try simp only [hw9]
           try simp only [hw8]
           try simp only [hw7]
           try simp only [hw6]
           try simp only [hw5]
           try simp only [hw4]
           try simp only [hw3]
           try simp only [hw2]
           try simp only [hw1]
           try simp only [hw0]
           simp only [rows_tup, List.append_assoc, List.cons_append, List.nil_append, putV]
           obtain ⟨v1, hv1⟩ : ∃ x, x = v / 256 := ⟨_, rfl⟩
           have b1 : 0 ≤ v1 ∧ v1 ≤ 18446744073709551615 := by omega
           have e1 : IntKind.wrap .u64 (v.tdiv 256) = v1 := by rw [td8 (by omega), wrap_u64]; omega
           simp only [e1]
           obtain ⟨v2, hv2⟩ : ∃ x, x = v1 / 256 := ⟨_, rfl⟩
           have b2 : 0 ≤ v2 ∧ v2 ≤ 18446744073709551615 := by omega
           have e2 : IntKind.wrap .u64 (v1.tdiv 256) = v2 := by rw [td8 (by omega), wrap_u64]; omega
           simp only [e2]
           obtain ⟨v3, hv3⟩ : ∃ x, x = v2 / 256 := ⟨_, rfl⟩
           have b3 : 0 ≤ v3 ∧ v3 ≤ 18446744073709551615 := by omega
           have e3 : IntKind.wrap .u64 (v2.tdiv 256) = v3 := by rw [td8 (by omega), wrap_u64]; omega
           simp only [e3]
           obtain ⟨v4, hv4⟩ : ∃ x, x = v3 / 256 := ⟨_, rfl⟩
           have b4 : 0 ≤ v4 ∧ v4 ≤ 18446744073709551615 := by omega
           have e4 : IntKind.wrap .u64 (v3.tdiv 256) = v4 := by rw [td8 (by omega), wrap_u64]; omega
           simp only [e4]
           obtain ⟨v5, hv5⟩ : ∃ x, x = v4 / 256 := ⟨_, rfl⟩
           have b5 : 0 ≤ v5 ∧ v5 ≤ 18446744073709551615 := by omega
           have e5 : IntKind.wrap .u64 (v4.tdiv 256) = v5 := by rw [td8 (by omega), wrap_u64]; omega
           simp only [e5]
           obtain ⟨v6, hv6⟩ : ∃ x, x = v5 / 256 := ⟨_, rfl⟩
           have b6 : 0 ≤ v6 ∧ v6 ≤ 18446744073709551615 := by omega
           have e6 : IntKind.wrap .u64 (v5.tdiv 256) = v6 := by rw [td8 (by omega), wrap_u64]; omega
           simp only [e6]
           obtain ⟨v7, hv7⟩ : ∃ x, x = v6 / 256 := ⟨_, rfl⟩
           have b7 : 0 ≤ v7 ∧ v7 ≤ 18446744073709551615 := by omega
           have e7 : IntKind.wrap .u64 (v6.tdiv 256) = v7 := by rw [td8 (by omega), wrap_u64]; omega
           simp only [e7]
           simp only [wrap_u8, tm8 (show 0 ≤ v by omega), tm8 (show 0 ≤ v1 by omega), tm8 (show 0 ≤ v2 by omega), tm8 (show 0 ≤ v3 by omega), tm8 (show 0 ≤ v4 by omega), tm8 (show 0 ≤ v5 by omega), tm8 (show 0 ≤ v6 by omega), tm8 (show 0 ≤ v7 by omega), Int.emod_emod]
           refine tup_congr ?_
           simp only [numB, ← hv1, ← hv2, ← hv3, ← hv4, ← hv5, ← hv6, ← hv7]
theorem ztg_rput8 : ztc_rput8.Good Tryd.prog syG (ztE [] [] [] []) := good_of_walk (Γ := ⟨[], syG, [], [], []⟩) (ρ := ztE [] [] [] []) sym rput8_w rfl (fun _ _ _ _ => ok_nil) (fun v l hc hty => rput8_h v l hc hty)
abbrev ztc_textp : Con := ⟨133, [(.hs .no (.cons (.int .u8) .nil) o0_), (.str 0)], (an_ (.bapp 0 (.cons o0_ .nil)) (an_ (le_ (.ofI (.vop (.len 1) (.cons o0_ .nil))) (.lit 70368744177664)) (le_ (.blen (.str 0)) (.lit 255)))), (.tup (.cons (.hs .no (.cons (.int .u8) .nil) (.vapp 11 (.cons o0_ (.cons (.str 0) .nil)))) (.cons (.err (.lit 0)) .nil))), ⟨0, 0, 1, 1⟩, none⟩
theorem ztg_textp : ztc_textp.Good Tryd.prog syG (ztE [] [] [] []) := by
  exact text_good (fun c s h => by
    obtain ⟨a, b, d⟩ := h
    have b2 : (((Sy.rows c).length / 1 : Nat) : Int) ≤ 70368744177664 := b
    have d2 : (s.size : Int) ≤ 255 := d
    exact ⟨okR_iff.1 a, by omega, by omega⟩) (fun _ _ _ => rfl)
def rtextp_tree : Tree :=
 (.br (lt_ (.lit 255) (.blen (.str 0)))
 (.ret (.tup (.cons (.hs .no (.cons (.int .u8) .nil) (.tup .nil)) (.cons (.int .i64 (.lit 5)) .nil))))
 (.need (an_ (le_ (.ofI (.vop (.len 1) (.cons o0_ .nil))) (.lit 70368744177664)) (an_ (le_ (.lit 0) (.wrap .u64 (.blen (.str 0)))) (le_ (.wrap .u64 (.blen (.str 0))) (.lit 18446744073709551615))))
 (.need (le_ (.blen (.str 0)) (.lit 140737488355328))
 (.need (le_ (ad_ (.ofI (.vop (.len 1) (.cons (.vapp 3 (.cons o0_ (.cons (.int .u64 (.wrap .u64 (.blen (.str 0)))) .nil))) .nil))) (.ofI (.vop (.len 1) (.cons (.vop .s2b (.cons (.str 0) .nil)) .nil)))) (.lit 140737488355328))
 (.ret (.tup (.cons (.hs .no (.cons (.int .u8) .nil) (.vop .cat (.cons (.vapp 3 (.cons o0_ (.cons (.int .u64 (.wrap .u64 (.blen (.str 0)))) .nil))) (.cons (.vop .s2b (.cons (.str 0) .nil)) .nil)))) (.cons (.int .i64 (.lit 0)) .nil))))))))
abbrev ztc_rtextp : Con := ⟨136, [(.hs .no (.cons (.int .u8) .nil) o0_), (.str 0)], (an_ (.bapp 0 (.cons o0_ .nil)) (an_ (le_ (.ofI (.vop (.len 1) (.cons o0_ .nil))) (.lit 70368744177664)) (le_ (.blen (.str 0)) (.lit 255)))), (.tup (.cons (.hs .no (.cons (.int .u8) .nil) (.vapp 11 (.cons o0_ (.cons (.str 0) .nil)))) (.cons (.int .i64 (.lit 0)) .nil))), ⟨0, 0, 1, 1⟩, none⟩
theorem rtextp_w : walk Tryd.prog 203 ⟨[ztc_rput1], syG, [], [], []⟩ [] (.tup (.cons (.s (.cons (.int .u8) .nil)) (.cons .v .nil))) ztc_rtextp ztc_rtextp.n 3000 = some rtextp_tree := by kernel_rfl
theorem rtextp_h (l : Value) (s : ByteArray) (hc : holds (ztE [] [] [l] [s]) (an_ (.bapp 0 (.cons o0_ .nil)) (an_ (le_ (.ofI (.vop (.len 1) (.cons o0_ .nil))) (.lit 70368744177664)) (le_ (.blen (.str 0)) (.lit 255))))) (hty : patsTyp (ztE [] [] [l] [s]) [(.hs .no (.cons (.int .u8) .nil) o0_), (.str 0)]) : rtextp_tree.holds (fun v_ => v_ = denV (ztE [] [] [l] [s]) b0 (.tup (.cons (.hs .no (.cons (.int .u8) .nil) (.vapp 11 (.cons o0_ (.cons (.str 0) .nil)))) (.cons (.int .i64 (.lit 0)) .nil)))) (ztE [] [] [l] [s]) := by
  simp only [Tree.holds, Sy.holds, AllN, Env.more, ztE, List.cons_append, List.nil_append, List.append_nil, denV, denI, denB, denL, I2.den, VOp.den, List.getD_cons_zero, List.getD_cons_succ, Cst.den, syso, syse, syio, sybo, ztb_okr, List.map_nil, List.map_cons, B2.ofInts, B2.denI, B2.denB, if_true, Bool.false_eq_true, if_false, Nat.div_one, Nat.mul_one, Nat.add_zero, holds] at hc
  simp only [patsTyp, patTyp, patTypL, ztE, denV, denL, List.getD_cons_zero, List.getD_cons_succ, and_true, true_and] at hty
  have hL_l : typ (.sl (.cons (.int .u8) .nil)) l := by first | exact hty | exact hty.1 | exact hty.2 | exact hty.1.1 | exact hty.1.2 | exact hty.2.1 | exact hty.2.2 | exact hty.2.2.1 | exact hty.2.2.2
  have hN_l := typ_len (n := 1) hL_l rfl (by omega)
  simp only [Nat.div_one, Nat.mul_one] at hN_l
  unfold rtextp_tree
  simp only [Tree.holds, Sy.holds, AllN, Env.more, ztE, List.cons_append, List.nil_append, List.append_nil, denV, denI, denB, denL, I2.den, VOp.den, List.getD_cons_zero, List.getD_cons_succ, Cst.den, syso, syse, syio, sybo, ztv_p1, ztv_ptx, List.map_nil, List.map_cons, B2.ofInts, B2.denI, B2.denB, if_true, Bool.false_eq_true, if_false, Nat.div_one, Nat.mul_one, Nat.add_zero]
  refine ⟨fun h0 => ?_, fun h0 => ?_⟩
  ·
   first
   | (exfalso; omega)
   | (have hw : IntKind.wrap .u64 (s.size : Int) = s.size := by omega
      rw [hw]
      refine congrArg (fun z => Value.tuple #[z, .int .i64 0]) (tup_congr ?_)
      rw [put_rows, rows_arr, List.append_assoc, ptx_eq (isB_typ hty hc.1)]
      rfl)
  ·
   have wf0 := wr_u64 ((ByteArray.size s : Nat) : Int)
   refine ⟨?_, fun h1 => ?_⟩
   ·
    first
    | omega
    | (have hs : s.data.size = s.size := rfl
       simp only [put_rows, rows_arr, List.length_append, List.length_map, numB_len, Array.length_toList]
       omega)
   ·
    refine ⟨?_, fun h2 => ?_⟩
    ·
     first
     | omega
     | (have hs : s.data.size = s.size := rfl
        simp only [put_rows, rows_arr, List.length_append, List.length_map, numB_len, Array.length_toList]
        omega)
    ·
     try simp only [hw0]
     refine ⟨?_, fun h3 => ?_⟩
     ·
      first
      | omega
      | (have hs : s.data.size = s.size := rfl
         simp only [put_rows, rows_arr, List.length_append, List.length_map, numB_len, Array.length_toList]
         omega)
     ·
      try simp only [hw0]
      first
      | (exfalso; omega)
      | (have hw : IntKind.wrap .u64 (s.size : Int) = s.size := by omega
         rw [hw]
         refine congrArg (fun z => Value.tuple #[z, .int .i64 0]) (tup_congr ?_)
         rw [put_rows, rows_arr, List.append_assoc, ptx_eq (isB_typ hty hc.1)]
         rfl)
theorem ztg_rtextp : ztc_rtextp.Good Tryd.prog syG (ztE [] [] [] []) := good_of_walk (Γ := ⟨[ztc_rput1], syG, [], [], []⟩) (ρ := ztE [] [] [] []) sym rtextp_w rfl (fun _ _ _ _ => (ok_cons (Con.Good.env ztg_rput1 _ _ _ _) ok_nil)) (fun l s hc hty => rtextp_h l s hc hty)
def rtk8_tree : Tree :=
 (.br (.bvar 0)
 (.ret (.tup (.cons (.agg (.cons (.hs .no (.cons (.int .u8) .nil) (.tup .nil)) (.cons (.bool (.tt true)) .nil))) (.cons (.int .u64 (.lit 0)) .nil))))
 (.br (lt_ (.ofI (.vop (.len 1) (.cons o0_ .nil))) (.lit 8))
 (.ret (.tup (.cons (.agg (.cons (.hs .no (.cons (.int .u8) .nil) (.tup .nil)) (.cons (.bool (.tt true)) .nil))) (.cons (.int .u64 (.lit 0)) .nil))))
 (.need (lt_ (.lit 7) (.ofI (.vop (.len 1) (.cons o0_ .nil))))
 (.need (lt_ (.lit 6) (.ofI (.vop (.len 1) (.cons o0_ .nil))))
 (.need (lt_ (.lit 5) (.ofI (.vop (.len 1) (.cons o0_ .nil))))
 (.need (lt_ (.lit 4) (.ofI (.vop (.len 1) (.cons o0_ .nil))))
 (.need (lt_ (.lit 3) (.ofI (.vop (.len 1) (.cons o0_ .nil))))
 (.need (lt_ (.lit 2) (.ofI (.vop (.len 1) (.cons o0_ .nil))))
 (.need (lt_ (.lit 1) (.ofI (.vop (.len 1) (.cons o0_ .nil))))
 (.need (lt_ (.lit 0) (.ofI (.vop (.len 1) (.cons o0_ .nil))))
 (.need (le_ (.lit 8) (.ofI (.vop (.len 1) (.cons o0_ .nil))))
 (.ret (.tup (.cons (.agg (.cons (.hs .no (.cons (.int .u8) .nil) (.vop (.sub 1) (.cons o0_ (.cons (.int .i64 (.lit 8)) (.cons (.int .i64 (.ofI (.vop (.len 1) (.cons o0_ .nil)))) .nil))))) (.cons (.bool (.tt false)) .nil))) (.cons (.int .u64 (.wrap .u64 (ad_ (.wrap .u64 (ml_ (.lit 256) (.wrap .u64 (ad_ (.wrap .u64 (ml_ (.lit 256) (.wrap .u64 (ad_ (.wrap .u64 (ml_ (.lit 256) (.wrap .u64 (ad_ (.wrap .u64 (ml_ (.lit 256) (.wrap .u64 (ad_ (.wrap .u64 (ml_ (.lit 256) (.wrap .u64 (ad_ (.wrap .u64 (ml_ (.lit 256) (.wrap .u64 (ad_ (.wrap .u64 (ml_ (.lit 256) (.wrap .u64 (ad_ (.lit 0) (.wrap .u64 (.ofI (.vop (.sel 1 0) (.cons o0_ (.cons (.int .i64 (.lit 7)) .nil))))))))) (.wrap .u64 (.ofI (.vop (.sel 1 0) (.cons o0_ (.cons (.int .i64 (.lit 6)) .nil))))))))) (.wrap .u64 (.ofI (.vop (.sel 1 0) (.cons o0_ (.cons (.int .i64 (.lit 5)) .nil))))))))) (.wrap .u64 (.ofI (.vop (.sel 1 0) (.cons o0_ (.cons (.int .i64 (.lit 4)) .nil))))))))) (.wrap .u64 (.ofI (.vop (.sel 1 0) (.cons o0_ (.cons (.int .i64 (.lit 3)) .nil))))))))) (.wrap .u64 (.ofI (.vop (.sel 1 0) (.cons o0_ (.cons (.int .i64 (.lit 2)) .nil))))))))) (.wrap .u64 (.ofI (.vop (.sel 1 0) (.cons o0_ (.cons (.int .i64 (.lit 1)) .nil))))))))) (.wrap .u64 (.ofI (.vop (.sel 1 0) (.cons o0_ (.cons (.int .i64 (.lit 0)) .nil)))))))) .nil)))))))))))))))
abbrev ztc_rtk8 : Con := ⟨146, [(.agg (.cons (.hs .no (.cons (.int .u8) .nil) o0_) (.cons (.bool (.bvar 0)) .nil))), (.int .i64 (.lit 8))], (an_ (.bapp 0 (.cons o0_ .nil)) (.b2 .or (.not (.bvar 0)) (eq_ (.ofI (.vop (.len 1) (.cons o0_ .nil))) (.lit 0)))), (.tup (.cons (.agg (.cons (.hs .no (.cons (.int .u8) .nil) (.vapp 0 (.cons o0_ (.cons (.int .i64 (.lit 8)) .nil)))) (.cons (.bool (.bapp 1 (.cons o0_ (.cons (.bool (.bvar 0)) (.cons (.int .i64 (.lit 8)) .nil))))) .nil))) (.cons (.int .u64 (.iapp 0 (.cons o0_ (.cons (.int .i64 (.lit 8)) .nil)))) .nil))), ⟨0, 1, 1, 0⟩, none⟩
theorem rtk8_w : walk Tryd.prog 203 ⟨[], syG, [], [], []⟩ [] (.tup (.cons (.agg (.cons (.s (.cons (.int .u8) .nil)) (.cons .v .nil))) (.cons .v .nil))) ztc_rtk8 ztc_rtk8.n 3000 = some rtk8_tree := by kernel_rfl
theorem rtk8_h (s : Bool) (l : Value) (hc : holds (ztE [] [s] [l] []) (an_ (.bapp 0 (.cons o0_ .nil)) (.b2 .or (.not (.bvar 0)) (eq_ (.ofI (.vop (.len 1) (.cons o0_ .nil))) (.lit 0))))) (hty : patsTyp (ztE [] [s] [l] []) [(.agg (.cons (.hs .no (.cons (.int .u8) .nil) o0_) (.cons (.bool (.bvar 0)) .nil))), (.int .i64 (.lit 8))]) : rtk8_tree.holds (fun v_ => v_ = denV (ztE [] [s] [l] []) b0 (.tup (.cons (.agg (.cons (.hs .no (.cons (.int .u8) .nil) (.vapp 0 (.cons o0_ (.cons (.int .i64 (.lit 8)) .nil)))) (.cons (.bool (.bapp 1 (.cons o0_ (.cons (.bool (.bvar 0)) (.cons (.int .i64 (.lit 8)) .nil))))) .nil))) (.cons (.int .u64 (.iapp 0 (.cons o0_ (.cons (.int .i64 (.lit 8)) .nil)))) .nil)))) (ztE [] [s] [l] []) := by
  simp only [Tree.holds, Sy.holds, AllN, Env.more, ztE, List.cons_append, List.nil_append, List.append_nil, denV, denI, denB, denL, I2.den, VOp.den, List.getD_cons_zero, List.getD_cons_succ, Cst.den, syso, syse, syio, sybo, ztb_okr, List.map_nil, List.map_cons, B2.ofInts, B2.denI, B2.denB, if_true, Bool.false_eq_true, if_false, Nat.div_one, Nat.mul_one, Nat.add_zero, holds] at hc
  simp only [patsTyp, patTyp, patTypL, ztE, denV, denL, List.getD_cons_zero, List.getD_cons_succ, and_true, true_and] at hty
  have hL_l : typ (.sl (.cons (.int .u8) .nil)) l := by first | exact hty | exact hty.1 | exact hty.2 | exact hty.1.1 | exact hty.1.2 | exact hty.2.1 | exact hty.2.2 | exact hty.2.2.1 | exact hty.2.2.2
  have hN_l := typ_len (n := 1) hL_l rfl (by omega)
  simp only [Nat.div_one, Nat.mul_one] at hN_l
  unfold rtk8_tree
  simp only [Tree.holds, Sy.holds, AllN, Env.more, ztE, List.cons_append, List.nil_append, List.append_nil, denV, denI, denB, denL, I2.den, VOp.den, List.getD_cons_zero, List.getD_cons_succ, Cst.den, syso, syse, syio, sybo, zti_rn, ztb_rs, ztv_rl, List.map_nil, List.map_cons, B2.ofInts, B2.denI, B2.denB, if_true, Bool.false_eq_true, if_false, Nat.div_one, Nat.mul_one, Nat.add_zero]
  have hl := byL_len (Sy.rows l)
  have hB := isB_typ hty hc.1
  refine ⟨fun h0 => ?_, fun h0 => ?_⟩
  ·
   first
   | (rcases hc.2 with hx | hx
      · exact absurd h0 hx
      · simp only [t8, t1, getL, getS, getV, if_neg (show ¬ 8 ≤ (byL (Sy.rows l)).length by omega)]
        rfl)
   | (
      simp only [t8, t1, getL, getS, getV, if_neg (show ¬ 8 ≤ (byL (Sy.rows l)).length by omega)]
      rfl)
   | (
      have hs : s = false := by cases s; rfl; exact absurd rfl h0
      have e1 := getL_map hB (k := 8) (by omega)
      have e3 := take8_val hB (by omega)
      have b0 := gB_rng hB (j := 0) (by omega)
      have g0 : Go.RowKit.intOf ((Sy.rows l).getD (Int.toNat 0) Go.undef) = gB (Sy.rows l) 0 := rfl
      have u0 : IntKind.wrap .u64 (gB (Sy.rows l) 0) = gB (Sy.rows l) 0 := by rw [wrap_u64]; omega
      have b1 := gB_rng hB (j := 1) (by omega)
      have g1 : Go.RowKit.intOf ((Sy.rows l).getD (Int.toNat 1) Go.undef) = gB (Sy.rows l) 1 := rfl
      have u1 : IntKind.wrap .u64 (gB (Sy.rows l) 1) = gB (Sy.rows l) 1 := by rw [wrap_u64]; omega
      have b2 := gB_rng hB (j := 2) (by omega)
      have g2 : Go.RowKit.intOf ((Sy.rows l).getD (Int.toNat 2) Go.undef) = gB (Sy.rows l) 2 := rfl
      have u2 : IntKind.wrap .u64 (gB (Sy.rows l) 2) = gB (Sy.rows l) 2 := by rw [wrap_u64]; omega
      have b3 := gB_rng hB (j := 3) (by omega)
      have g3 : Go.RowKit.intOf ((Sy.rows l).getD (Int.toNat 3) Go.undef) = gB (Sy.rows l) 3 := rfl
      have u3 : IntKind.wrap .u64 (gB (Sy.rows l) 3) = gB (Sy.rows l) 3 := by rw [wrap_u64]; omega
      have b4 := gB_rng hB (j := 4) (by omega)
      have g4 : Go.RowKit.intOf ((Sy.rows l).getD (Int.toNat 4) Go.undef) = gB (Sy.rows l) 4 := rfl
      have u4 : IntKind.wrap .u64 (gB (Sy.rows l) 4) = gB (Sy.rows l) 4 := by rw [wrap_u64]; omega
      have b5 := gB_rng hB (j := 5) (by omega)
      have g5 : Go.RowKit.intOf ((Sy.rows l).getD (Int.toNat 5) Go.undef) = gB (Sy.rows l) 5 := rfl
      have u5 : IntKind.wrap .u64 (gB (Sy.rows l) 5) = gB (Sy.rows l) 5 := by rw [wrap_u64]; omega
      have b6 := gB_rng hB (j := 6) (by omega)
      have g6 : Go.RowKit.intOf ((Sy.rows l).getD (Int.toNat 6) Go.undef) = gB (Sy.rows l) 6 := rfl
      have u6 : IntKind.wrap .u64 (gB (Sy.rows l) 6) = gB (Sy.rows l) 6 := by rw [wrap_u64]; omega
      have b7 := gB_rng hB (j := 7) (by omega)
      have g7 : Go.RowKit.intOf ((Sy.rows l).getD (Int.toNat 7) Go.undef) = gB (Sy.rows l) 7 := rfl
      have u7 : IntKind.wrap .u64 (gB (Sy.rows l) 7) = gB (Sy.rows l) 7 := by rw [wrap_u64]; omega
      simp only [g0, g1, g2, g3, g4, g5, g6, g7, u0, u1, u2, u3, u4, u5, u6, u7, t8, Int.toNat_natCast, List.take_length]
      rw [e1, e3, hs]
      have eS : getS (byL (Sy.rows l)) false 8 = false := by unfold getS; rw [if_pos (by omega)]
      rw [eS]
      obtain ⟨y7, hy7⟩ : ∃ y, y = gB (Sy.rows l) 7 := ⟨_, rfl⟩
      have r7 : 0 ≤ y7 ∧ y7 ≤ 255 := by omega
      have c7 : IntKind.wrap .u64 (0 + gB (Sy.rows l) 7) = y7 := by rw [wrap_u64]; omega
      simp only [c7]
      obtain ⟨y6, hy6⟩ : ∃ y, y = 256 * y7 + gB (Sy.rows l) 6 := ⟨_, rfl⟩
      have r6 : 0 ≤ y6 ∧ y6 ≤ 65535 := by omega
      have c6 : IntKind.wrap .u64 (IntKind.wrap .u64 (256 * y7) + gB (Sy.rows l) 6) = y6 := by rw [wrap_u64, wrap_u64]; omega
      simp only [c6]
      obtain ⟨y5, hy5⟩ : ∃ y, y = 256 * y6 + gB (Sy.rows l) 5 := ⟨_, rfl⟩
      have r5 : 0 ≤ y5 ∧ y5 ≤ 16777215 := by omega
      have c5 : IntKind.wrap .u64 (IntKind.wrap .u64 (256 * y6) + gB (Sy.rows l) 5) = y5 := by rw [wrap_u64, wrap_u64]; omega
      simp only [c5]
      obtain ⟨y4, hy4⟩ : ∃ y, y = 256 * y5 + gB (Sy.rows l) 4 := ⟨_, rfl⟩
      have r4 : 0 ≤ y4 ∧ y4 ≤ 4294967295 := by omega
      have c4 : IntKind.wrap .u64 (IntKind.wrap .u64 (256 * y5) + gB (Sy.rows l) 4) = y4 := by rw [wrap_u64, wrap_u64]; omega
      simp only [c4]
      obtain ⟨y3, hy3⟩ : ∃ y, y = 256 * y4 + gB (Sy.rows l) 3 := ⟨_, rfl⟩
      have r3 : 0 ≤ y3 ∧ y3 ≤ 1099511627775 := by omega
      have c3 : IntKind.wrap .u64 (IntKind.wrap .u64 (256 * y4) + gB (Sy.rows l) 3) = y3 := by rw [wrap_u64, wrap_u64]; omega
      simp only [c3]
      obtain ⟨y2, hy2⟩ : ∃ y, y = 256 * y3 + gB (Sy.rows l) 2 := ⟨_, rfl⟩
      have r2 : 0 ≤ y2 ∧ y2 ≤ 281474976710655 := by omega
      have c2 : IntKind.wrap .u64 (IntKind.wrap .u64 (256 * y3) + gB (Sy.rows l) 2) = y2 := by rw [wrap_u64, wrap_u64]; omega
      simp only [c2]
      obtain ⟨y1, hy1⟩ : ∃ y, y = 256 * y2 + gB (Sy.rows l) 1 := ⟨_, rfl⟩
      have r1 : 0 ≤ y1 ∧ y1 ≤ 72057594037927935 := by omega
      have c1 : IntKind.wrap .u64 (IntKind.wrap .u64 (256 * y2) + gB (Sy.rows l) 1) = y1 := by rw [wrap_u64, wrap_u64]; omega
      simp only [c1]
      obtain ⟨y0, hy0⟩ : ∃ y, y = 256 * y1 + gB (Sy.rows l) 0 := ⟨_, rfl⟩
      have r0 : 0 ≤ y0 ∧ y0 ≤ 18446744073709551615 := by omega
      have c0 : IntKind.wrap .u64 (IntKind.wrap .u64 (256 * y1) + gB (Sy.rows l) 0) = y0 := by rw [wrap_u64, wrap_u64]; omega
      simp only [c0]
      have hf : y0 = gB (Sy.rows l) 0 + 256 * (gB (Sy.rows l) 1 + 256 * (gB (Sy.rows l) 2 + 256 * (gB (Sy.rows l) 3 + 256 * (gB (Sy.rows l) 4 + 256 * (gB (Sy.rows l) 5 + 256 * (gB (Sy.rows l) 6 + 256 * (gB (Sy.rows l) 7))))))) := by omega
      rw [hf])
  ·
   refine ⟨fun h1 => ?_, fun h1 => ?_⟩
   ·
    first
    | (rcases hc.2 with hx | hx
       · exact absurd h0 hx
       · simp only [t8, t1, getL, getS, getV, if_neg (show ¬ 8 ≤ (byL (Sy.rows l)).length by omega)]
         rfl)
    | (
       simp only [t8, t1, getL, getS, getV, if_neg (show ¬ 8 ≤ (byL (Sy.rows l)).length by omega)]
       rfl)
    | (
       have hs : s = false := by cases s; rfl; exact absurd rfl h0
       have e1 := getL_map hB (k := 8) (by omega)
       have e3 := take8_val hB (by omega)
       have b0 := gB_rng hB (j := 0) (by omega)
       have g0 : Go.RowKit.intOf ((Sy.rows l).getD (Int.toNat 0) Go.undef) = gB (Sy.rows l) 0 := rfl
       have u0 : IntKind.wrap .u64 (gB (Sy.rows l) 0) = gB (Sy.rows l) 0 := by rw [wrap_u64]; omega
       have b1 := gB_rng hB (j := 1) (by omega)
       have g1 : Go.RowKit.intOf ((Sy.rows l).getD (Int.toNat 1) Go.undef) = gB (Sy.rows l) 1 := rfl
       have u1 : IntKind.wrap .u64 (gB (Sy.rows l) 1) = gB (Sy.rows l) 1 := by rw [wrap_u64]; omega
       have b2 := gB_rng hB (j := 2) (by omega)
       have g2 : Go.RowKit.intOf ((Sy.rows l).getD (Int.toNat 2) Go.undef) = gB (Sy.rows l) 2 := rfl
       have u2 : IntKind.wrap .u64 (gB (Sy.rows l) 2) = gB (Sy.rows l) 2 := by rw [wrap_u64]; omega
       have b3 := gB_rng hB (j := 3) (by omega)
       have g3 : Go.RowKit.intOf ((Sy.rows l).getD (Int.toNat 3) Go.undef) = gB (Sy.rows l) 3 := rfl
       have u3 : IntKind.wrap .u64 (gB (Sy.rows l) 3) = gB (Sy.rows l) 3 := by rw [wrap_u64]; omega
       have b4 := gB_rng hB (j := 4) (by omega)
       have g4 : Go.RowKit.intOf ((Sy.rows l).getD (Int.toNat 4) Go.undef) = gB (Sy.rows l) 4 := rfl
       have u4 : IntKind.wrap .u64 (gB (Sy.rows l) 4) = gB (Sy.rows l) 4 := by rw [wrap_u64]; omega
       have b5 := gB_rng hB (j := 5) (by omega)
       have g5 : Go.RowKit.intOf ((Sy.rows l).getD (Int.toNat 5) Go.undef) = gB (Sy.rows l) 5 := rfl
       have u5 : IntKind.wrap .u64 (gB (Sy.rows l) 5) = gB (Sy.rows l) 5 := by rw [wrap_u64]; omega
       have b6 := gB_rng hB (j := 6) (by omega)
       have g6 : Go.RowKit.intOf ((Sy.rows l).getD (Int.toNat 6) Go.undef) = gB (Sy.rows l) 6 := rfl
       have u6 : IntKind.wrap .u64 (gB (Sy.rows l) 6) = gB (Sy.rows l) 6 := by rw [wrap_u64]; omega
       have b7 := gB_rng hB (j := 7) (by omega)
       have g7 : Go.RowKit.intOf ((Sy.rows l).getD (Int.toNat 7) Go.undef) = gB (Sy.rows l) 7 := rfl
       have u7 : IntKind.wrap .u64 (gB (Sy.rows l) 7) = gB (Sy.rows l) 7 := by rw [wrap_u64]; omega
       simp only [g0, g1, g2, g3, g4, g5, g6, g7, u0, u1, u2, u3, u4, u5, u6, u7, t8, Int.toNat_natCast, List.take_length]
       rw [e1, e3, hs]
       have eS : getS (byL (Sy.rows l)) false 8 = false := by unfold getS; rw [if_pos (by omega)]
       rw [eS]
       obtain ⟨y7, hy7⟩ : ∃ y, y = gB (Sy.rows l) 7 := ⟨_, rfl⟩
       have r7 : 0 ≤ y7 ∧ y7 ≤ 255 := by omega
       have c7 : IntKind.wrap .u64 (0 + gB (Sy.rows l) 7) = y7 := by rw [wrap_u64]; omega
       simp only [c7]
       obtain ⟨y6, hy6⟩ : ∃ y, y = 256 * y7 + gB (Sy.rows l) 6 := ⟨_, rfl⟩
       have r6 : 0 ≤ y6 ∧ y6 ≤ 65535 := by omega
       have c6 : IntKind.wrap .u64 (IntKind.wrap .u64 (256 * y7) + gB (Sy.rows l) 6) = y6 := by rw [wrap_u64, wrap_u64]; omega
       simp only [c6]
       obtain ⟨y5, hy5⟩ : ∃ y, y = 256 * y6 + gB (Sy.rows l) 5 := ⟨_, rfl⟩
       have r5 : 0 ≤ y5 ∧ y5 ≤ 16777215 := by omega
       have c5 : IntKind.wrap .u64 (IntKind.wrap .u64 (256 * y6) + gB (Sy.rows l) 5) = y5 := by rw [wrap_u64, wrap_u64]; omega
       simp only [c5]
       obtain ⟨y4, hy4⟩ : ∃ y, y = 256 * y5 + gB (Sy.rows l) 4 := ⟨_, rfl⟩
       have r4 : 0 ≤ y4 ∧ y4 ≤ 4294967295 := by omega
       have c4 : IntKind.wrap .u64 (IntKind.wrap .u64 (256 * y5) + gB (Sy.rows l) 4) = y4 := by rw [wrap_u64, wrap_u64]; omega
       simp only [c4]
       obtain ⟨y3, hy3⟩ : ∃ y, y = 256 * y4 + gB (Sy.rows l) 3 := ⟨_, rfl⟩
       have r3 : 0 ≤ y3 ∧ y3 ≤ 1099511627775 := by omega
       have c3 : IntKind.wrap .u64 (IntKind.wrap .u64 (256 * y4) + gB (Sy.rows l) 3) = y3 := by rw [wrap_u64, wrap_u64]; omega
       simp only [c3]
       obtain ⟨y2, hy2⟩ : ∃ y, y = 256 * y3 + gB (Sy.rows l) 2 := ⟨_, rfl⟩
       have r2 : 0 ≤ y2 ∧ y2 ≤ 281474976710655 := by omega
       have c2 : IntKind.wrap .u64 (IntKind.wrap .u64 (256 * y3) + gB (Sy.rows l) 2) = y2 := by rw [wrap_u64, wrap_u64]; omega
       simp only [c2]
       obtain ⟨y1, hy1⟩ : ∃ y, y = 256 * y2 + gB (Sy.rows l) 1 := ⟨_, rfl⟩
       have r1 : 0 ≤ y1 ∧ y1 ≤ 72057594037927935 := by omega
       have c1 : IntKind.wrap .u64 (IntKind.wrap .u64 (256 * y2) + gB (Sy.rows l) 1) = y1 := by rw [wrap_u64, wrap_u64]; omega
       simp only [c1]
       obtain ⟨y0, hy0⟩ : ∃ y, y = 256 * y1 + gB (Sy.rows l) 0 := ⟨_, rfl⟩
       have r0 : 0 ≤ y0 ∧ y0 ≤ 18446744073709551615 := by omega
       have c0 : IntKind.wrap .u64 (IntKind.wrap .u64 (256 * y1) + gB (Sy.rows l) 0) = y0 := by rw [wrap_u64, wrap_u64]; omega
       simp only [c0]
       have hf : y0 = gB (Sy.rows l) 0 + 256 * (gB (Sy.rows l) 1 + 256 * (gB (Sy.rows l) 2 + 256 * (gB (Sy.rows l) 3 + 256 * (gB (Sy.rows l) 4 + 256 * (gB (Sy.rows l) 5 + 256 * (gB (Sy.rows l) 6 + 256 * (gB (Sy.rows l) 7))))))) := by omega
       rw [hf])
   ·
    refine ⟨?_, fun h2 => ?_⟩
    ·
     omega
    ·
     refine ⟨?_, fun h3 => ?_⟩
     ·
      omega
     ·
      refine ⟨?_, fun h4 => ?_⟩
      ·
       omega
      ·
       refine ⟨?_, fun h5 => ?_⟩
       ·
        omega
       ·
        refine ⟨?_, fun h6 => ?_⟩
        ·
         omega
        ·
         refine ⟨?_, fun h7 => ?_⟩
         ·
          omega
         ·
          refine ⟨?_, fun h8 => ?_⟩
          ·
           omega
          ·
           refine ⟨?_, fun h9 => ?_⟩
           ·
            omega
           ·
            refine ⟨?_, fun h10 => ?_⟩
            ·
             omega
            ·
             first
             | (rcases hc.2 with hx | hx
                · exact absurd h0 hx
                · simp only [t8, t1, getL, getS, getV, if_neg (show ¬ 8 ≤ (byL (Sy.rows l)).length by omega)]
                  rfl)
             | (
                simp only [t8, t1, getL, getS, getV, if_neg (show ¬ 8 ≤ (byL (Sy.rows l)).length by omega)]
                rfl)
             | (
                have hs : s = false := by cases s; rfl; exact absurd rfl h0
                have e1 := getL_map hB (k := 8) (by omega)
                have e3 := take8_val hB (by omega)
                have b0 := gB_rng hB (j := 0) (by omega)
                have g0 : Go.RowKit.intOf ((Sy.rows l).getD (Int.toNat 0) Go.undef) = gB (Sy.rows l) 0 := rfl
                have u0 : IntKind.wrap .u64 (gB (Sy.rows l) 0) = gB (Sy.rows l) 0 := by rw [wrap_u64]; omega
                have b1 := gB_rng hB (j := 1) (by omega)
                have g1 : Go.RowKit.intOf ((Sy.rows l).getD (Int.toNat 1) Go.undef) = gB (Sy.rows l) 1 := rfl
                have u1 : IntKind.wrap .u64 (gB (Sy.rows l) 1) = gB (Sy.rows l) 1 := by rw [wrap_u64]; omega
                have b2 := gB_rng hB (j := 2) (by omega)
                have g2 : Go.RowKit.intOf ((Sy.rows l).getD (Int.toNat 2) Go.undef) = gB (Sy.rows l) 2 := rfl
                have u2 : IntKind.wrap .u64 (gB (Sy.rows l) 2) = gB (Sy.rows l) 2 := by rw [wrap_u64]; omega
                have b3 := gB_rng hB (j := 3) (by omega)
                have g3 : Go.RowKit.intOf ((Sy.rows l).getD (Int.toNat 3) Go.undef) = gB (Sy.rows l) 3 := rfl
                have u3 : IntKind.wrap .u64 (gB (Sy.rows l) 3) = gB (Sy.rows l) 3 := by rw [wrap_u64]; omega
                have b4 := gB_rng hB (j := 4) (by omega)
                have g4 : Go.RowKit.intOf ((Sy.rows l).getD (Int.toNat 4) Go.undef) = gB (Sy.rows l) 4 := rfl
                have u4 : IntKind.wrap .u64 (gB (Sy.rows l) 4) = gB (Sy.rows l) 4 := by rw [wrap_u64]; omega
                have b5 := gB_rng hB (j := 5) (by omega)
                have g5 : Go.RowKit.intOf ((Sy.rows l).getD (Int.toNat 5) Go.undef) = gB (Sy.rows l) 5 := rfl
                have u5 : IntKind.wrap .u64 (gB (Sy.rows l) 5) = gB (Sy.rows l) 5 := by rw [wrap_u64]; omega
                have b6 := gB_rng hB (j := 6) (by omega)
                have g6 : Go.RowKit.intOf ((Sy.rows l).getD (Int.toNat 6) Go.undef) = gB (Sy.rows l) 6 := rfl
                have u6 : IntKind.wrap .u64 (gB (Sy.rows l) 6) = gB (Sy.rows l) 6 := by rw [wrap_u64]; omega
                have b7 := gB_rng hB (j := 7) (by omega)
                have g7 : Go.RowKit.intOf ((Sy.rows l).getD (Int.toNat 7) Go.undef) = gB (Sy.rows l) 7 := rfl
                have u7 : IntKind.wrap .u64 (gB (Sy.rows l) 7) = gB (Sy.rows l) 7 := by rw [wrap_u64]; omega
                simp only [g0, g1, g2, g3, g4, g5, g6, g7, u0, u1, u2, u3, u4, u5, u6, u7, t8, Int.toNat_natCast, List.take_length]
                rw [e1, e3, hs]
                have eS : getS (byL (Sy.rows l)) false 8 = false := by unfold getS; rw [if_pos (by omega)]
                rw [eS]
                obtain ⟨y7, hy7⟩ : ∃ y, y = gB (Sy.rows l) 7 := ⟨_, rfl⟩
                have r7 : 0 ≤ y7 ∧ y7 ≤ 255 := by omega
                have c7 : IntKind.wrap .u64 (0 + gB (Sy.rows l) 7) = y7 := by rw [wrap_u64]; omega
                simp only [c7]
                obtain ⟨y6, hy6⟩ : ∃ y, y = 256 * y7 + gB (Sy.rows l) 6 := ⟨_, rfl⟩
                have r6 : 0 ≤ y6 ∧ y6 ≤ 65535 := by omega
                have c6 : IntKind.wrap .u64 (IntKind.wrap .u64 (256 * y7) + gB (Sy.rows l) 6) = y6 := by rw [wrap_u64, wrap_u64]; omega
                simp only [c6]
                obtain ⟨y5, hy5⟩ : ∃ y, y = 256 * y6 + gB (Sy.rows l) 5 := ⟨_, rfl⟩
                have r5 : 0 ≤ y5 ∧ y5 ≤ 16777215 := by omega
                have c5 : IntKind.wrap .u64 (IntKind.wrap .u64 (256 * y6) + gB (Sy.rows l) 5) = y5 := by rw [wrap_u64, wrap_u64]; omega
                simp only [c5]
                obtain ⟨y4, hy4⟩ : ∃ y, y = 256 * y5 + gB (Sy.rows l) 4 := ⟨_, rfl⟩
                have r4 : 0 ≤ y4 ∧ y4 ≤ 4294967295 := by omega
                have c4 : IntKind.wrap .u64 (IntKind.wrap .u64 (256 * y5) + gB (Sy.rows l) 4) = y4 := by rw [wrap_u64, wrap_u64]; omega
                simp only [c4]
                obtain ⟨y3, hy3⟩ : ∃ y, y = 256 * y4 + gB (Sy.rows l) 3 := ⟨_, rfl⟩
                have r3 : 0 ≤ y3 ∧ y3 ≤ 1099511627775 := by omega
                have c3 : IntKind.wrap .u64 (IntKind.wrap .u64 (256 * y4) + gB (Sy.rows l) 3) = y3 := by rw [wrap_u64, wrap_u64]; omega
                simp only [c3]
                obtain ⟨y2, hy2⟩ : ∃ y, y = 256 * y3 + gB (Sy.rows l) 2 := ⟨_, rfl⟩
                have r2 : 0 ≤ y2 ∧ y2 ≤ 281474976710655 := by omega
                have c2 : IntKind.wrap .u64 (IntKind.wrap .u64 (256 * y3) + gB (Sy.rows l) 2) = y2 := by rw [wrap_u64, wrap_u64]; omega
                simp only [c2]
                obtain ⟨y1, hy1⟩ : ∃ y, y = 256 * y2 + gB (Sy.rows l) 1 := ⟨_, rfl⟩
                have r1 : 0 ≤ y1 ∧ y1 ≤ 72057594037927935 := by omega
                have c1 : IntKind.wrap .u64 (IntKind.wrap .u64 (256 * y2) + gB (Sy.rows l) 1) = y1 := by rw [wrap_u64, wrap_u64]; omega
                simp only [c1]
                obtain ⟨y0, hy0⟩ : ∃ y, y = 256 * y1 + gB (Sy.rows l) 0 := ⟨_, rfl⟩
                have r0 : 0 ≤ y0 ∧ y0 ≤ 18446744073709551615 := by omega
                have c0 : IntKind.wrap .u64 (IntKind.wrap .u64 (256 * y1) + gB (Sy.rows l) 0) = y0 := by rw [wrap_u64, wrap_u64]; omega
                simp only [c0]
                have hf : y0 = gB (Sy.rows l) 0 + 256 * (gB (Sy.rows l) 1 + 256 * (gB (Sy.rows l) 2 + 256 * (gB (Sy.rows l) 3 + 256 * (gB (Sy.rows l) 4 + 256 * (gB (Sy.rows l) 5 + 256 * (gB (Sy.rows l) 6 + 256 * (gB (Sy.rows l) 7))))))) := by omega
                rw [hf])
theorem ztg_rtk8 : ztc_rtk8.Good Tryd.prog syG (ztE [] [] [] []) := good_of_walk (Γ := ⟨[], syG, [], [], []⟩) (ρ := ztE [] [] [] []) sym rtk8_w rfl (fun _ _ _ _ => ok_nil) (fun s l hc hty => rtk8_h s l hc hty)
def rtk1_tree : Tree :=
 (.br (.bvar 0)
 (.ret (.tup (.cons (.agg (.cons (.hs .no (.cons (.int .u8) .nil) (.tup .nil)) (.cons (.bool (.tt true)) .nil))) (.cons (.int .u64 (.lit 0)) .nil))))
 (.br (lt_ (.ofI (.vop (.len 1) (.cons o0_ .nil))) (.lit 1))
 (.ret (.tup (.cons (.agg (.cons (.hs .no (.cons (.int .u8) .nil) (.tup .nil)) (.cons (.bool (.tt true)) .nil))) (.cons (.int .u64 (.lit 0)) .nil))))
 (.need (lt_ (.lit 0) (.ofI (.vop (.len 1) (.cons o0_ .nil))))
 (.need (le_ (.lit 1) (.ofI (.vop (.len 1) (.cons o0_ .nil))))
 (.ret (.tup (.cons (.agg (.cons (.hs .no (.cons (.int .u8) .nil) (.vop (.sub 1) (.cons o0_ (.cons (.int .i64 (.lit 1)) (.cons (.int .i64 (.ofI (.vop (.len 1) (.cons o0_ .nil)))) .nil))))) (.cons (.bool (.tt false)) .nil))) (.cons (.int .u64 (.wrap .u64 (ad_ (.lit 0) (.wrap .u64 (.ofI (.vop (.sel 1 0) (.cons o0_ (.cons (.int .i64 (.lit 0)) .nil)))))))) .nil))))))))
abbrev ztc_rtk1 : Con := ⟨146, [(.agg (.cons (.hs .no (.cons (.int .u8) .nil) o0_) (.cons (.bool (.bvar 0)) .nil))), (.int .i64 (.lit 1))], (an_ (.bapp 0 (.cons o0_ .nil)) (.b2 .or (.not (.bvar 0)) (eq_ (.ofI (.vop (.len 1) (.cons o0_ .nil))) (.lit 0)))), (.tup (.cons (.agg (.cons (.hs .no (.cons (.int .u8) .nil) (.vapp 0 (.cons o0_ (.cons (.int .i64 (.lit 1)) .nil)))) (.cons (.bool (.bapp 1 (.cons o0_ (.cons (.bool (.bvar 0)) (.cons (.int .i64 (.lit 1)) .nil))))) .nil))) (.cons (.int .u64 (.iapp 0 (.cons o0_ (.cons (.int .i64 (.lit 1)) .nil)))) .nil))), ⟨0, 1, 1, 0⟩, none⟩
theorem rtk1_w : walk Tryd.prog 203 ⟨[], syG, [], [], []⟩ [] (.tup (.cons (.agg (.cons (.s (.cons (.int .u8) .nil)) (.cons .v .nil))) (.cons .v .nil))) ztc_rtk1 ztc_rtk1.n 3000 = some rtk1_tree := by kernel_rfl
theorem rtk1_h (s : Bool) (l : Value) (hc : holds (ztE [] [s] [l] []) (an_ (.bapp 0 (.cons o0_ .nil)) (.b2 .or (.not (.bvar 0)) (eq_ (.ofI (.vop (.len 1) (.cons o0_ .nil))) (.lit 0))))) (hty : patsTyp (ztE [] [s] [l] []) [(.agg (.cons (.hs .no (.cons (.int .u8) .nil) o0_) (.cons (.bool (.bvar 0)) .nil))), (.int .i64 (.lit 1))]) : rtk1_tree.holds (fun v_ => v_ = denV (ztE [] [s] [l] []) b0 (.tup (.cons (.agg (.cons (.hs .no (.cons (.int .u8) .nil) (.vapp 0 (.cons o0_ (.cons (.int .i64 (.lit 1)) .nil)))) (.cons (.bool (.bapp 1 (.cons o0_ (.cons (.bool (.bvar 0)) (.cons (.int .i64 (.lit 1)) .nil))))) .nil))) (.cons (.int .u64 (.iapp 0 (.cons o0_ (.cons (.int .i64 (.lit 1)) .nil)))) .nil)))) (ztE [] [s] [l] []) := by
  simp only [Tree.holds, Sy.holds, AllN, Env.more, ztE, List.cons_append, List.nil_append, List.append_nil, denV, denI, denB, denL, I2.den, VOp.den, List.getD_cons_zero, List.getD_cons_succ, Cst.den, syso, syse, syio, sybo, ztb_okr, List.map_nil, List.map_cons, B2.ofInts, B2.denI, B2.denB, if_true, Bool.false_eq_true, if_false, Nat.div_one, Nat.mul_one, Nat.add_zero, holds] at hc
  simp only [patsTyp, patTyp, patTypL, ztE, denV, denL, List.getD_cons_zero, List.getD_cons_succ, and_true, true_and] at hty
  have hL_l : typ (.sl (.cons (.int .u8) .nil)) l := by first | exact hty | exact hty.1 | exact hty.2 | exact hty.1.1 | exact hty.1.2 | exact hty.2.1 | exact hty.2.2 | exact hty.2.2.1 | exact hty.2.2.2
  have hN_l := typ_len (n := 1) hL_l rfl (by omega)
  simp only [Nat.div_one, Nat.mul_one] at hN_l
  unfold rtk1_tree
  simp only [Tree.holds, Sy.holds, AllN, Env.more, ztE, List.cons_append, List.nil_append, List.append_nil, denV, denI, denB, denL, I2.den, VOp.den, List.getD_cons_zero, List.getD_cons_succ, Cst.den, syso, syse, syio, sybo, zti_rn, ztb_rs, ztv_rl, List.map_nil, List.map_cons, B2.ofInts, B2.denI, B2.denB, if_true, Bool.false_eq_true, if_false, Nat.div_one, Nat.mul_one, Nat.add_zero]
  have hl := byL_len (Sy.rows l)
  have hB := isB_typ hty hc.1
  refine ⟨fun h0 => ?_, fun h0 => ?_⟩
  ·
   first
   | (rcases hc.2 with hx | hx
      · exact absurd h0 hx
      · simp only [t8, t1, getL, getS, getV, if_neg (show ¬ 1 ≤ (byL (Sy.rows l)).length by omega)]
        rfl)
   | (
      simp only [t8, t1, getL, getS, getV, if_neg (show ¬ 1 ≤ (byL (Sy.rows l)).length by omega)]
      rfl)
   | (
      have hs : s = false := by cases s; rfl; exact absurd rfl h0
      have e1 := getL_map hB (k := 1) (by omega)
      have e3 := take1_val hB (by omega)
      have b0 := gB_rng hB (j := 0) (by omega)
      have g0 : Go.RowKit.intOf ((Sy.rows l).getD (Int.toNat 0) Go.undef) = gB (Sy.rows l) 0 := rfl
      have u0 : IntKind.wrap .u64 (gB (Sy.rows l) 0) = gB (Sy.rows l) 0 := by rw [wrap_u64]; omega
      simp only [g0, u0, t1, Int.toNat_natCast, List.take_length]
      rw [e1, e3, hs]
      have eS : getS (byL (Sy.rows l)) false 1 = false := by unfold getS; rw [if_pos (by omega)]
      rw [eS]
      obtain ⟨y0, hy0⟩ : ∃ y, y = gB (Sy.rows l) 0 := ⟨_, rfl⟩
      have r0 : 0 ≤ y0 ∧ y0 ≤ 255 := by omega
      have c0 : IntKind.wrap .u64 (0 + gB (Sy.rows l) 0) = y0 := by rw [wrap_u64]; omega
      simp only [c0]
      have hf : y0 = gB (Sy.rows l) 0 := by omega
      rw [hf])
  ·
   refine ⟨fun h1 => ?_, fun h1 => ?_⟩
   ·
    first
    | (rcases hc.2 with hx | hx
       · exact absurd h0 hx
       · simp only [t8, t1, getL, getS, getV, if_neg (show ¬ 1 ≤ (byL (Sy.rows l)).length by omega)]
         rfl)
    | (
       simp only [t8, t1, getL, getS, getV, if_neg (show ¬ 1 ≤ (byL (Sy.rows l)).length by omega)]
       rfl)
    | (
       have hs : s = false := by cases s; rfl; exact absurd rfl h0
       have e1 := getL_map hB (k := 1) (by omega)
       have e3 := take1_val hB (by omega)
       have b0 := gB_rng hB (j := 0) (by omega)
       have g0 : Go.RowKit.intOf ((Sy.rows l).getD (Int.toNat 0) Go.undef) = gB (Sy.rows l) 0 := rfl
       have u0 : IntKind.wrap .u64 (gB (Sy.rows l) 0) = gB (Sy.rows l) 0 := by rw [wrap_u64]; omega
       simp only [g0, u0, t1, Int.toNat_natCast, List.take_length]
       rw [e1, e3, hs]
       have eS : getS (byL (Sy.rows l)) false 1 = false := by unfold getS; rw [if_pos (by omega)]
       rw [eS]
       obtain ⟨y0, hy0⟩ : ∃ y, y = gB (Sy.rows l) 0 := ⟨_, rfl⟩
       have r0 : 0 ≤ y0 ∧ y0 ≤ 255 := by omega
       have c0 : IntKind.wrap .u64 (0 + gB (Sy.rows l) 0) = y0 := by rw [wrap_u64]; omega
       simp only [c0]
       have hf : y0 = gB (Sy.rows l) 0 := by omega
       rw [hf])
   ·
    refine ⟨?_, fun h2 => ?_⟩
    ·
     omega
    ·
     refine ⟨?_, fun h3 => ?_⟩
     ·
      omega
     ·
      first
      | (rcases hc.2 with hx | hx
         · exact absurd h0 hx
         · simp only [t8, t1, getL, getS, getV, if_neg (show ¬ 1 ≤ (byL (Sy.rows l)).length by omega)]
           rfl)
      | (
         simp only [t8, t1, getL, getS, getV, if_neg (show ¬ 1 ≤ (byL (Sy.rows l)).length by omega)]
         rfl)
      | (
         have hs : s = false := by cases s; rfl; exact absurd rfl h0
         have e1 := getL_map hB (k := 1) (by omega)
         have e3 := take1_val hB (by omega)
         have b0 := gB_rng hB (j := 0) (by omega)
         have g0 : Go.RowKit.intOf ((Sy.rows l).getD (Int.toNat 0) Go.undef) = gB (Sy.rows l) 0 := rfl
         have u0 : IntKind.wrap .u64 (gB (Sy.rows l) 0) = gB (Sy.rows l) 0 := by rw [wrap_u64]; omega
         simp only [g0, u0, t1, Int.toNat_natCast, List.take_length]
         rw [e1, e3, hs]
         have eS : getS (byL (Sy.rows l)) false 1 = false := by unfold getS; rw [if_pos (by omega)]
         rw [eS]
         obtain ⟨y0, hy0⟩ : ∃ y, y = gB (Sy.rows l) 0 := ⟨_, rfl⟩
         have r0 : 0 ≤ y0 ∧ y0 ≤ 255 := by omega
         have c0 : IntKind.wrap .u64 (0 + gB (Sy.rows l) 0) = y0 := by rw [wrap_u64]; omega
         simp only [c0]
         have hf : y0 = gB (Sy.rows l) 0 := by omega
         rw [hf])
theorem ztg_rtk1 : ztc_rtk1.Good Tryd.prog syG (ztE [] [] [] []) := good_of_walk (Γ := ⟨[], syG, [], [], []⟩) (ρ := ztE [] [] [] []) sym rtk1_w rfl (fun _ _ _ _ => ok_nil) (fun s l hc hty => rtk1_h s l hc hty)
def rwords_tree : Tree :=
 (.need (an_ (.bapp 0 (.cons o0_ .nil)) (.b2 .or (.not (.bvar 0)) (eq_ (.ofI (.vop (.len 1) (.cons o0_ .nil))) (.lit 0))))
 (.br (.bapp 1 (.cons o0_ (.cons (.bool (.bvar 0)) (.cons (.int .i64 (.lit 1)) .nil))))
 (.ret (.tup (.cons (.agg (.cons (.hs .no (.cons (.int .u8) .nil) (.tup .nil)) (.cons (.bool (.tt true)) .nil))) (.cons (.cst (.strc [])) .nil))))
 (.br (lt_ (.wrap .u64 (.ofI (.vop (.len 1) (.cons (.vapp 0 (.cons o0_ (.cons (.int .i64 (.lit 1)) .nil))) .nil)))) (.iapp 0 (.cons o0_ (.cons (.int .i64 (.lit 1)) .nil))))
 (.ret (.tup (.cons (.agg (.cons (.hs .no (.cons (.int .u8) .nil) (.tup .nil)) (.cons (.bool (.tt true)) .nil))) (.cons (.cst (.strc [])) .nil))))
 (.need (an_ (le_ (.lit 0) (.iapp 0 (.cons o0_ (.cons (.int .i64 (.lit 1)) .nil)))) (le_ (.iapp 0 (.cons o0_ (.cons (.int .i64 (.lit 1)) .nil))) (.ofI (.vop (.len 1) (.cons (.vapp 0 (.cons o0_ (.cons (.int .i64 (.lit 1)) .nil))) .nil)))))
 (.need (an_ (le_ (.lit 0) (.iapp 0 (.cons o0_ (.cons (.int .i64 (.lit 1)) .nil)))) (le_ (.iapp 0 (.cons o0_ (.cons (.int .i64 (.lit 1)) .nil))) (.ofI (.vop (.len 1) (.cons (.vapp 0 (.cons o0_ (.cons (.int .i64 (.lit 1)) .nil))) .nil)))))
 (.ret (.tup (.cons (.agg (.cons (.hs .no (.cons (.int .u8) .nil) (.vop (.sub 1) (.cons (.vapp 0 (.cons o0_ (.cons (.int .i64 (.lit 1)) .nil))) (.cons (.int .i64 (.iapp 0 (.cons o0_ (.cons (.int .i64 (.lit 1)) .nil)))) (.cons (.int .i64 (.ofI (.vop (.len 1) (.cons (.vapp 0 (.cons o0_ (.cons (.int .i64 (.lit 1)) .nil))) .nil)))) .nil))))) (.cons (.bool (.tt false)) .nil))) (.cons (.vop .b2s (.cons (.vop (.sub 1) (.cons (.vapp 0 (.cons o0_ (.cons (.int .i64 (.lit 1)) .nil))) (.cons (.int .i64 (.lit 0)) (.cons (.int .i64 (.iapp 0 (.cons o0_ (.cons (.int .i64 (.lit 1)) .nil)))) .nil)))) .nil)) .nil)))))))))
abbrev ztc_rwords : Con := ⟨145, [(.agg (.cons (.hs .no (.cons (.int .u8) .nil) o0_) (.cons (.bool (.bvar 0)) .nil)))], (an_ (.bapp 0 (.cons o0_ .nil)) (.b2 .or (.not (.bvar 0)) (eq_ (.ofI (.vop (.len 1) (.cons o0_ .nil))) (.lit 0)))), (.tup (.cons (.agg (.cons (.hs .no (.cons (.int .u8) .nil) (.vapp 10 (.cons o0_ .nil))) (.cons (.bool (.bapp 9 (.cons o0_ (.cons (.bool (.bvar 0)) .nil)))) .nil))) (.cons (.sapp 9 (.cons o0_ .nil)) .nil))), ⟨0, 1, 1, 0⟩, none⟩
theorem rwords_w : walk Tryd.prog 203 ⟨[ztc_rtk1], syG, [], [], []⟩ [] (.tup (.cons (.agg (.cons (.s (.cons (.int .u8) .nil)) (.cons .v .nil))) (.cons .v .nil))) ztc_rwords ztc_rwords.n 3000 = some rwords_tree := by kernel_rfl
theorem rwords_h (s : Bool) (l : Value) (hc : holds (ztE [] [s] [l] []) (an_ (.bapp 0 (.cons o0_ .nil)) (.b2 .or (.not (.bvar 0)) (eq_ (.ofI (.vop (.len 1) (.cons o0_ .nil))) (.lit 0))))) (hty : patsTyp (ztE [] [s] [l] []) [(.agg (.cons (.hs .no (.cons (.int .u8) .nil) o0_) (.cons (.bool (.bvar 0)) .nil)))]) : rwords_tree.holds (fun v_ => v_ = denV (ztE [] [s] [l] []) b0 (.tup (.cons (.agg (.cons (.hs .no (.cons (.int .u8) .nil) (.vapp 10 (.cons o0_ .nil))) (.cons (.bool (.bapp 9 (.cons o0_ (.cons (.bool (.bvar 0)) .nil)))) .nil))) (.cons (.sapp 9 (.cons o0_ .nil)) .nil)))) (ztE [] [s] [l] []) := by
  simp only [Tree.holds, Sy.holds, AllN, Env.more, ztE, List.cons_append, List.nil_append, List.append_nil, denV, denI, denB, denL, I2.den, VOp.den, List.getD_cons_zero, List.getD_cons_succ, Cst.den, syso, syse, syio, sybo, ztb_okr, List.map_nil, List.map_cons, B2.ofInts, B2.denI, B2.denB, if_true, Bool.false_eq_true, if_false, Nat.div_one, Nat.mul_one, Nat.add_zero, holds] at hc
  simp only [patsTyp, patTyp, patTypL, ztE, denV, denL, List.getD_cons_zero, List.getD_cons_succ, and_true, true_and] at hty
  have hL_l : typ (.sl (.cons (.int .u8) .nil)) l := by first | exact hty | exact hty.1 | exact hty.2 | exact hty.1.1 | exact hty.1.2 | exact hty.2.1 | exact hty.2.2 | exact hty.2.2.1 | exact hty.2.2.2
  have hN_l := typ_len (n := 1) hL_l rfl (by omega)
  simp only [Nat.div_one, Nat.mul_one] at hN_l
  unfold rwords_tree
  simp only [Tree.holds, Sy.holds, AllN, Env.more, ztE, List.cons_append, List.nil_append, List.append_nil, denV, denI, denB, denL, I2.den, VOp.den, List.getD_cons_zero, List.getD_cons_succ, Cst.den, syso, syse, syio, sybo, zti_rn, ztb_okr, ztb_rs, ztb_ts, ztv_rl, ztv_tx, ztv_tl, List.map_nil, List.map_cons, B2.ofInts, B2.denI, B2.denB, if_true, Bool.false_eq_true, if_false, Nat.div_one, Nat.mul_one, Nat.add_zero]
  have hB := isB_typ hty hc.1
  have hv := getV_lt (byL (Sy.rows l)) 1
  have hg := getL_le (byL (Sy.rows l)) 1
  have hl := byL_len (Sy.rows l)
  simp only [rl_eq, t1, rows_arr, List.length_map, Int.toNat_natCast]
  have hw : IntKind.wrap .u64 (((getL (byL (Sy.rows l)) 1).length : Nat) : Int) = (getL (byL (Sy.rows l)) 1).length := by
    have := wr_u64 (((getL (byL (Sy.rows l)) 1).length : Nat) : Int)
    omega
  simp only [hw]
  refine ⟨?_, fun h0 => ?_⟩
  ·
   first | exact hc | omega
  ·
   refine ⟨fun h1 => ?_, fun h1 => ?_⟩
   ·
    first
    | (have h1' : (byL (Sy.rows l)).length = 0 := by
         rcases Nat.eq_zero_or_pos (byL (Sy.rows l)).length with z | z
         · exact z
         · rw [getS, if_pos (show 1 ≤ (byL (Sy.rows l)).length from z)] at h1
           rcases hc.2 with hx | hx
           · exact absurd h1 hx
           · omega
       have hX := List.eq_nil_of_length_eq_zero h1'
       obtain ⟨a, b, c⟩ := getT_nil s
       rw [hX, a, b, c]
       rfl)
    | (have hb : (getL (byL (Sy.rows l)) 1).length < getV (byL (Sy.rows l)) 1 := by omega
       obtain ⟨a, b, c⟩ := getT_no (l := byL (Sy.rows l)) (s := s) hb
       rw [a, b, c]
       rfl)
    | (have hk : getV (byL (Sy.rows l)) 1 ≤ (getL (byL (Sy.rows l)) 1).length := by omega
       have a : getT (byL (Sy.rows l)) = (getL (byL (Sy.rows l)) 1).take (getV (byL (Sy.rows l)) 1) := if_pos hk
       have b : getTL (byL (Sy.rows l)) = (getL (byL (Sy.rows l)) 1).drop (getV (byL (Sy.rows l)) 1) := if_pos hk
       have c : getTS (byL (Sy.rows l)) s = false := by
         unfold getTS
         rw [getS, if_pos hk]
         cases he : getS (byL (Sy.rows l)) s 1
         · rfl
         · exact absurd he h1
       have d : ∀ (k : Nat) (G : List UInt8), List.map Sy.byteOf (List.drop (Int.toNat 0) (List.take k (List.map bV G))) = G.take k := fun k G => by
         rw [← List.map_take]
         exact byL_bV (G.take k)
       have e : List.take (getL (byL (Sy.rows l)) 1).length (List.map bV (getL (byL (Sy.rows l)) 1)) = List.map bV (getL (byL (Sy.rows l)) 1) := List.take_of_length_le (by simp)
       rw [a, b, c, d, e, List.map_drop])
   ·
    refine ⟨fun h2 => ?_, fun h2 => ?_⟩
    ·
     first
     | (have h1' : (byL (Sy.rows l)).length = 0 := by
          rcases Nat.eq_zero_or_pos (byL (Sy.rows l)).length with z | z
          · exact z
          · rw [getS, if_pos (show 1 ≤ (byL (Sy.rows l)).length from z)] at h1
            rcases hc.2 with hx | hx
            · exact absurd h1 hx
            · omega
        have hX := List.eq_nil_of_length_eq_zero h1'
        obtain ⟨a, b, c⟩ := getT_nil s
        rw [hX, a, b, c]
        rfl)
     | (have hb : (getL (byL (Sy.rows l)) 1).length < getV (byL (Sy.rows l)) 1 := by omega
        obtain ⟨a, b, c⟩ := getT_no (l := byL (Sy.rows l)) (s := s) hb
        rw [a, b, c]
        rfl)
     | (have hk : getV (byL (Sy.rows l)) 1 ≤ (getL (byL (Sy.rows l)) 1).length := by omega
        have a : getT (byL (Sy.rows l)) = (getL (byL (Sy.rows l)) 1).take (getV (byL (Sy.rows l)) 1) := if_pos hk
        have b : getTL (byL (Sy.rows l)) = (getL (byL (Sy.rows l)) 1).drop (getV (byL (Sy.rows l)) 1) := if_pos hk
        have c : getTS (byL (Sy.rows l)) s = false := by
          unfold getTS
          rw [getS, if_pos hk]
          cases he : getS (byL (Sy.rows l)) s 1
          · rfl
          · exact absurd he h1
        have d : ∀ (k : Nat) (G : List UInt8), List.map Sy.byteOf (List.drop (Int.toNat 0) (List.take k (List.map bV G))) = G.take k := fun k G => by
          rw [← List.map_take]
          exact byL_bV (G.take k)
        have e : List.take (getL (byL (Sy.rows l)) 1).length (List.map bV (getL (byL (Sy.rows l)) 1)) = List.map bV (getL (byL (Sy.rows l)) 1) := List.take_of_length_le (by simp)
        rw [a, b, c, d, e, List.map_drop])
    ·
     refine ⟨?_, fun h3 => ?_⟩
     ·
      first | exact hc | omega
     ·
      refine ⟨?_, fun h4 => ?_⟩
      ·
       first | exact hc | omega
      ·
       first
       | (have h1' : (byL (Sy.rows l)).length = 0 := by
            rcases Nat.eq_zero_or_pos (byL (Sy.rows l)).length with z | z
            · exact z
            · rw [getS, if_pos (show 1 ≤ (byL (Sy.rows l)).length from z)] at h1
              rcases hc.2 with hx | hx
              · exact absurd h1 hx
              · omega
          have hX := List.eq_nil_of_length_eq_zero h1'
          obtain ⟨a, b, c⟩ := getT_nil s
          rw [hX, a, b, c]
          rfl)
       | (have hb : (getL (byL (Sy.rows l)) 1).length < getV (byL (Sy.rows l)) 1 := by omega
          obtain ⟨a, b, c⟩ := getT_no (l := byL (Sy.rows l)) (s := s) hb
          rw [a, b, c]
          rfl)
       | (have hk : getV (byL (Sy.rows l)) 1 ≤ (getL (byL (Sy.rows l)) 1).length := by omega
          have a : getT (byL (Sy.rows l)) = (getL (byL (Sy.rows l)) 1).take (getV (byL (Sy.rows l)) 1) := if_pos hk
          have b : getTL (byL (Sy.rows l)) = (getL (byL (Sy.rows l)) 1).drop (getV (byL (Sy.rows l)) 1) := if_pos hk
          have c : getTS (byL (Sy.rows l)) s = false := by
            unfold getTS
            rw [getS, if_pos hk]
            cases he : getS (byL (Sy.rows l)) s 1
            · rfl
            · exact absurd he h1
          have d : ∀ (k : Nat) (G : List UInt8), List.map Sy.byteOf (List.drop (Int.toNat 0) (List.take k (List.map bV G))) = G.take k := fun k G => by
            rw [← List.map_take]
            exact byL_bV (G.take k)
          have e : List.take (getL (byL (Sy.rows l)) 1).length (List.map bV (getL (byL (Sy.rows l)) 1)) = List.map bV (getL (byL (Sy.rows l)) 1) := List.take_of_length_le (by simp)
          rw [a, b, c, d, e, List.map_drop])
theorem ztg_rwords : ztc_rwords.Good Tryd.prog syG (ztE [] [] [] []) := good_of_walk (Γ := ⟨[ztc_rtk1], syG, [], [], []⟩) (ρ := ztE [] [] [] []) sym rwords_w rfl (fun _ _ _ _ => (ok_cons (Con.Good.env ztg_rtk1 _ _ _ _) ok_nil)) (fun s l hc hty => rwords_h s l hc hty)
end Go.Proofs.YtbgmbbkmadkhgaaDoor
