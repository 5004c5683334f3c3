/-
 Texts in blobs.
-/
import Derived.Test.YtikfgnmljpjnbaaDoorSycpob
import Derived.Test.YtikfgnmljpjnbaaDoorZzpob
import Derived.Test.YtikfgnmljpjnbaaDoorRdtpob
import Derived.Test.YtikfgnmljpjnbaaDoorN09lpob
import Derived.Test.YtikfgnmljpjnbaaDoorTxgpob
namespace Go.Proofs.YtikfgnmljpjnbaaDoor
open Go.RowKit Go.Extern.Stop Go.Stop Go.Extern Go.Proofs.YtikfgnmljpjnbaaDoor.Sy
set_option linter.unusedVariables false
set_option linter.unusedSimpArgs false
theorem getTL_le (l : List UInt8) : (getTL l).length ≤ l.length := Nat.le_trans (getL_le _ _) (getL_le _ _)
def txV (s : ByteArray) : List Value := .int .u8 ((s.size : Int) % 256) :: s.data.toList.map byteV
theorem ptx_eq {L : List Value} (h : isB L) (s : ByteArray) : (byL L ++ txt s).map bV = L ++ txV s := by
 rw [List.map_append, h.by]
 refine congrArg (fun z => L ++ z) ?_
 have e1 : (leB s.size 1).map bV = [.int .u8 ((s.size : Int) % 256)] := by
   simp [leB, bV]
 show (leB s.size 1 ++ sB s).map bV = _
 rw [List.map_append, e1]
 rfl
theorem rows_nil : Sy.rows (Value.tuple #[]) = [] := rfl
theorem rows_arr (l : List Value) : Sy.rows (Value.tuple l.toArray) = l := rfl
theorem put_rows (l : List Value) (v : Int) (n : Nat) : Sy.rows (putV l v n) = l ++ numB v n := rfl
theorem rl_eq (l : List UInt8) : byL (Sy.rows (Value.tuple (l.map bV).toArray)) = l := byL_bV l
theorem t8 : Int.toNat 8 = 8 := rfl
theorem t1 : Int.toNat 1 = 1 := rfl
noncomputable def ztI : Nat → List Value → Int
 | i, l => zzI i l
noncomputable def ztB : Nat → List Value → Bool
 | 9, [l, .bool s] => getTS (byL (rows l)) s
 | i, l => zzB i l
noncomputable def ztV : Nat → List Value → Value
 | 9, [l] => .string ⟨(getT (byL (rows l))).toArray⟩
 | 10, [l] => Value.tuple ((getTL (byL (rows l))).map bV).toArray
 | 11, [l, .string s] => .tuple ((byL (rows l) ++ txt s).map bV).toArray
 | i, l => zzV i l
noncomputable abbrev ztE (iv : List Int) (bv : List Bool) (vv : List Value) (sv : List ByteArray) : Env := { iv := iv, bv := bv, vv := vv, sv := sv, fi := ztI, fb := ztB, fv := ztV, et := 101 }
set_option maxHeartbeats 8000000 in
theorem ztup : Agree 13 9 9 (zzE [] [] [] []) (ztE [] [] [] []) := ⟨rfl, (by
   intro f hf
   funext l
   show ztI f l = zzI f l
   unfold ztI
   split <;> first | rfl | omega), (by
   intro f hf
   funext l
   show ztB f l = zzB f l
   unfold ztB
   split <;> first | rfl | omega), (by
   intro f hf
   funext l
   show ztV f l = zzV f l
   unfold ztV
   split <;> first | rfl | omega)⟩
theorem ztv_p8 (l : Value) (k1 : IntKind) (v : Int) : ztV 6 [l, .int k1 v] = putV (rows l) v 8 := rfl
abbrev ztc_text : MCon := ⟨93, 0, [(.hs .no (.cons (.int .u8) .nil) o0_), (.bool (.bvar 0))], (.bapp 0 (.cons o0_ .nil)), (.sapp 9 (.cons o0_ .nil)), [(.hs .no (.cons (.int .u8) .nil) (.vapp 10 (.cons o0_ .nil))), (.bool (.bapp 9 (.cons o0_ (.cons (.bool (.bvar 0)) .nil))))], ⟨0, 1, 1, 0⟩⟩
theorem ztg_text : ztc_text.Good Tryd.prog syG (ztE [] [] [] []) := by
 exact get_good (fun l => .string ⟨(getT l).toArray⟩) getTL getTS (fun Q w g l sh h hl => getT_cG Q w g l sh h hl) getTL_le (fun c sh h => okR_iff.1 h) (fun _ _ _ _ _ _ => rfl) (fun _ _ _ => rfl) (fun _ _ _ _ _ _ => rfl)
def i64p_tree : Tree :=
 (.need (an_ (le_ (.ofI (.vop (.len 1) (.cons o0_ .nil))) (.lit 140737488355000)) (an_ (le_ (.lit 0) (.wrap .u64 v0_)) (le_ (.wrap .u64 v0_) (.lit 18446744073709551615))))
 (.ret (.hs (.new 5) (.cons (.int .u8) .nil) (.vapp 6 (.cons o0_ (.cons (.int .i64 (.wrap .u64 v0_)) .nil))))))
abbrev ztc_i64p : Con := ⟨44, [(.hs .no (.cons (.int .u8) .nil) o0_), z0_], (an_ (le_ (.ofI (.vop (.len 1) (.cons o0_ .nil))) (.lit 70368744177664)) (an_ (le_ lm_ v0_) (le_ v0_ lM_))), (.hs (.new 5) (.cons (.int .u8) .nil) (.vapp 6 (.cons o0_ (.cons z0_ .nil)))), ⟨1, 0, 1, 0⟩, none⟩
theorem i64p_w : walk Tryd.prog 101 ⟨[z6c_num8], syG, [], [], []⟩ [] (.o 5 (.cons (.int .u8) .nil)) ztc_i64p ztc_i64p.n 3000 = some i64p_tree := by kernel_rfl
theorem i64p_h (v : Int) (l : Value) : Hyp_ ztc_i64p i64p_tree (ztE [v] [] [l] []) := by
 intro hc hty
 simp only [ztc_i64p, Sy.holds, ztE, denV, denI, denB, denL, I2.den, VOp.den, List.getD_cons_zero, List.getD_cons_succ, Cst.den, syso, syse, syio, sybo, B2.ofInts, B2.denI, B2.denB, if_true, Bool.false_eq_true, if_false, Nat.div_one, Nat.mul_one, Nat.add_zero] at hc
 simp only [ztc_i64p, patsTyp, patTyp, patTypL, ztE, denV, denL, List.getD_cons_zero, List.getD_cons_succ, and_true, true_and] at hty
 have hL_l : typ (.sl (.cons (.int .u8) .nil)) l := by first | exact hty | exact hty.1 | exact hty.2 | exact hty.1.1 | exact hty.1.2 | exact hty.2.1 | exact hty.2.2 | exact hty.2.2.1 | exact hty.2.2.2
 have hN_l := typ_len (n := 1) hL_l rfl (by omega)
 simp only [Nat.div_one, Nat.mul_one] at hN_l
 unfold i64p_tree
 simp only [ztc_i64p, Tree.holds, Sy.holds, ztE, denV, denI, denB, denL, I2.den, VOp.den, List.getD_cons_zero, List.getD_cons_succ, Cst.den, syso, syse, syio, sybo, ztv_p8, B2.ofInts, B2.denI, B2.denB, if_true, Bool.false_eq_true, if_false, Nat.div_one, Nat.mul_one, Nat.add_zero]
 have wf0 := wr_u64 v
 refine ⟨?_, fun h0 => ?_⟩
 ·
  first
  | omega
  | (have := wr_u64 v
     omega)
 ·
  unfold putV
  rw [numB_u64 (by omega) (by omega)]
theorem ztg_i64p : ztc_i64p.Good Tryd.prog syG (ztE [] [] [] []) := good_of_walk (Γ := ⟨[z6c_num8], syG, [], [], []⟩) (ρ := ztE [] [] [] []) sym i64p_w rfl (fun _ _ _ _ => (ok_cons (Con.Good.env (Con.Good.up (Con.Good.up (Con.Good.up z6g_num8 zb6up rfl) zzup rfl) ztup rfl) _ _ _ _) ok_nil)) i64p_h
abbrev ztc_textp : Con := ⟨74, [(.hs .no (.cons (.int .u8) .nil) o0_), (.str 0)], (an_ (.bapp 0 (.cons o0_ .nil)) (an_ (le_ (.ofI (.vop (.len 1) (.cons o0_ .nil))) (.lit 70368744177664)) (le_ (.blen (.str 0)) (.lit 255)))), (.tup (.cons (.hs .no (.cons (.int .u8) .nil) (.vapp 11 (.cons o0_ (.cons (.str 0) .nil)))) (.cons (.err (.lit 0)) .nil))), ⟨0, 0, 1, 1⟩, none⟩
theorem ztg_textp : ztc_textp.Good Tryd.prog syG (ztE [] [] [] []) := by
 exact text_good (fun c s h => by
   obtain ⟨a, b, d⟩ := h
   have b2 : (((Sy.rows c).length / 1 : Nat) : Int) ≤ 70368744177664 := b
   have d2 : (s.size : Int) ≤ 255 := d
   exact ⟨okR_iff.1 a, by omega, by omega⟩) (fun _ _ _ => rfl)
end Go.Proofs.YtikfgnmljpjnbaaDoor
