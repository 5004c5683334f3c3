/-
 Texts in bytes; what a reader has left.
-/
import Derived.Test.YtmlidfpjeomcmaaDoorSycclb
import Derived.Test.YtmlidfpjeomcmaaDoorZ6bclb
import Derived.Test.YtmlidfpjeomcmaaDoorRdtclb
import Derived.Test.YtmlidfpjeomcmaaDoorN09lclb
import Derived.Test.YtmlidfpjeomcmaaDoorTxhclb
namespace Go.Proofs.YtmlidfpjeomcmaaDoor
open Go.RowKit Go.Extern.Stop Go.Stop Go.Extern Go.Proofs.YtmlidfpjeomcmaaDoor.Sy
set_option linter.unusedVariables false
set_option linter.unusedSimpArgs false
theorem take2_val {l : List Value} (h : isB l) (h1 : 2 ≤ l.length) : ((getV (byL l) 2 : Nat) : Int) = gB l 0 + 256 * gB l 1 := by
 match l, h1 with
 | x0 :: x1 :: r, _ =>
   obtain ⟨n0, rfl, a0, b0⟩ := h x0 (by simp)
   obtain ⟨n1, rfl, a1, b1⟩ := h x1 (by simp)
   have hL : getV (byL (.int .u8 n0 :: .int .u8 n1 :: r)) 2 = leV [UInt8.ofNat n0.toNat, UInt8.ofNat n1.toNat] := by
     unfold getV
     rw [if_pos (by simp [byL])]
     rfl
   have e0 : leV [] = 0 := rfl
   rw [hL]
   simp only [leV_cons, u8_toNat a0 b0, u8_toNat a1 b1, e0]
   show _ = n0 + 256 * n1
   omega
theorem t2 : Int.toNat 2 = 2 := rfl
def ptqV (l : List Value) (s : ByteArray) : Value := if s.size ≤ 255 then .tuple ((byL l ++ txt s).map bV).toArray else .tuple #[]
def pteI (s : ByteArray) : Int := if s.size ≤ 255 then 0 else 5
theorem getTL_le (l : List UInt8) : (getTL l).length ≤ l.length := Nat.le_trans (getL_le _ _) (getL_le _ _)
def txV (s : ByteArray) : List Value := .int .u8 ((s.size : Int) % 256) :: s.data.toList.map byteV
theorem ptx_eq {L : List Value} (h : isB L) (s : ByteArray) : (byL L ++ txt s).map bV = L ++ txV s := by
 rw [List.map_append, h.by]
 refine congrArg (fun z => L ++ z) ?_
 have e1 : (leB s.size 1).map bV = [.int .u8 ((s.size : Int) % 256)] := by
   simp [leB, bV]
 show (leB s.size 1 ++ sB s).map bV = _
 rw [List.map_append, e1]
 rfl
theorem rows_arr (l : List Value) : Sy.rows (Value.tuple l.toArray) = l := rfl
theorem put_rows (l : List Value) (v : Int) (n : Nat) : Sy.rows (putV l v n) = l ++ numB v n := rfl
theorem rl_eq (l : List UInt8) : byL (Sy.rows (Value.tuple (l.map bV).toArray)) = l := byL_bV l
theorem t8 : Int.toNat 8 = 8 := rfl
theorem t1 : Int.toNat 1 = 1 := rfl
noncomputable def tcI : Nat → List Value → Int
 | 10, [.string s] => pteI s
 | i, l => zb6I i l
noncomputable def tcB : Nat → List Value → Bool
 | 3, [l, .bool s] => getTS (byL (rows l)) s
 | i, l => zb6B i l
noncomputable def tcV : Nat → List Value → Value
 | 9, [l] => .string ⟨(getT (byL (rows l))).toArray⟩
 | 10, [l] => Value.tuple ((getTL (byL (rows l))).map bV).toArray
 | 11, [l, .string s] => .tuple ((byL (rows l) ++ txt s).map bV).toArray
 | 12, [l, .string s] => ptqV (rows l) s
 | i, l => zb6V i l
noncomputable abbrev tcE (iv : List Int) (bv : List Bool) (vv : List Value) (sv : List ByteArray) : Env := { iv := iv, bv := bv, vv := vv, sv := sv, fi := tcI, fb := tcB, fv := tcV, et := 61 }
set_option maxHeartbeats 8000000 in
theorem tcup : Agree 10 3 9 (zb6E [] [] [] []) (tcE [] [] [] []) := ⟨rfl, (by
   intro f hf
   funext l
   show tcI f l = zb6I f l
   unfold tcI
   split <;> first | rfl | omega), (by
   intro f hf
   funext l
   show tcB f l = zb6B f l
   unfold tcB
   split <;> first | rfl | omega), (by
   intro f hf
   funext l
   show tcV f l = zb6V f l
   unfold tcV
   split <;> first | rfl | omega)⟩
theorem tcv_p8 (l : Value) (k1 : IntKind) (v : Int) : tcV 6 [l, .int k1 v] = putV (rows l) v 8 := rfl
abbrev tcc_text : MCon := ⟨26, 0, [(.hs .no (.cons (.int .u8) .nil) (.opq 0)), (.bool (.bvar 0))], (.bapp 0 (.cons (.opq 0) .nil)), (.sapp 9 (.cons (.opq 0) .nil)), [(.hs .no (.cons (.int .u8) .nil) (.vapp 10 (.cons (.opq 0) .nil))), (.bool (.bapp 3 (.cons (.opq 0) (.cons (.bool (.bvar 0)) .nil))))], ⟨0, 1, 1, 0⟩⟩
theorem tcg_text : tcc_text.Good Tryd.prog syG (tcE [] [] [] []) := by
 exact get_good (fun l => .string ⟨(getT l).toArray⟩) getTL getTS (fun Q w g l sh h hl => getT_cG Q w g l sh h hl) getTL_le (fun c sh h => okR_iff.1 h) (fun _ _ _ _ _ _ => rfl) (fun _ _ _ => rfl) (fun _ _ _ _ _ _ => rfl)
def i64p_tree : Tree :=
 (.need (.b2 .and (.b2 .le (.ofI (.vop (.len 1) (.cons (.opq 0) .nil))) (.lit (140737488355000))) (.b2 .and (.b2 .le (.lit (0)) (.wrap .u64 (.var 0))) (.b2 .le (.wrap .u64 (.var 0)) (.lit (18446744073709551615)))))
 (.ret (.hs (.new 5) (.cons (.int .u8) .nil) (.vapp 6 (.cons (.opq 0) (.cons (.int .i64 (.wrap .u64 (.var 0))) .nil))))))
abbrev tcc_i64p : Con := ⟨21, [(.hs .no (.cons (.int .u8) .nil) (.opq 0)), (.int .i64 (.var 0))], (.b2 .and (.b2 .le (.ofI (.vop (.len 1) (.cons (.opq 0) .nil))) (.lit (70368744177664))) (.b2 .and (.b2 .le (.lit (-9223372036854775808)) (.var 0)) (.b2 .le (.var 0) (.lit (9223372036854775807))))), (.hs (.new 5) (.cons (.int .u8) .nil) (.vapp 6 (.cons (.opq 0) (.cons (.int .i64 (.var 0)) .nil)))), ⟨1, 0, 1, 0⟩, none⟩
theorem i64p_w : walk Tryd.prog 61 ⟨[z6c_num8], syG, [], [], []⟩ [] (.o 5 (.cons (.int .u8) .nil)) tcc_i64p tcc_i64p.n 3000 = some i64p_tree := by kernel_rfl
theorem i64p_h (v : Int) (l : Value) : Hyp_ tcc_i64p i64p_tree (tcE [v] [] [l] []) := by
 intro hc hty
 simp only [tcc_i64p, Sy.holds, tcE, denV, denI, denB, denL, I2.den, VOp.den, List.getD_cons_zero, List.getD_cons_succ, Cst.den, syso, syse, syio, sybo, B2.ofInts, B2.denI, B2.denB, if_true, Bool.false_eq_true, if_false, Nat.div_one, Nat.mul_one, Nat.add_zero] at hc
 simp only [tcc_i64p, patsTyp, patTyp, patTypL, tcE, denV, denL, List.getD_cons_zero, List.getD_cons_succ, and_true, true_and] at hty
 have hL_l : typ (.sl (.cons (.int .u8) .nil)) l := by first | exact hty | exact hty.1 | exact hty.2 | exact hty.1.1 | exact hty.1.2 | exact hty.2.1 | exact hty.2.2 | exact hty.2.2.1 | exact hty.2.2.2
 have hN_l := typ_len (n := 1) hL_l rfl (by omega)
 simp only [Nat.div_one, Nat.mul_one] at hN_l
 unfold i64p_tree
 simp only [tcc_i64p, Tree.holds, Sy.holds, tcE, denV, denI, denB, denL, I2.den, VOp.den, List.getD_cons_zero, List.getD_cons_succ, Cst.den, syso, syse, syio, sybo, tcv_p8, B2.ofInts, B2.denI, B2.denB, if_true, Bool.false_eq_true, if_false, Nat.div_one, Nat.mul_one, Nat.add_zero]
 have wf0 := wr_u64 v
 refine ⟨?_, fun h0 => ?_⟩
 ·
  first
  | omega
  | (have := wr_u64 v
     omega)
 ·
  unfold putV
  rw [numB_u64 (by omega) (by omega)]
theorem tcg_i64p : tcc_i64p.Good Tryd.prog syG (tcE [] [] [] []) := good_of_walk (Γ := ⟨[z6c_num8], syG, [], [], []⟩) (ρ := tcE [] [] [] []) sym i64p_w rfl (fun _ _ _ _ => (ok_cons (Con.Good.env (Con.Good.up (Con.Good.up z6g_num8 zb6up rfl) tcup rfl) _ _ _ _) ok_nil)) i64p_h
abbrev tcc_textq : Con := ⟨19, [(.hs .no (.cons (.int .u8) .nil) (.opq 0)), (.str 0)], (.b2 .and (.bapp 0 (.cons (.opq 0) .nil)) (.b2 .and (.b2 .le (.ofI (.vop (.len 1) (.cons (.opq 0) .nil))) (.lit (70368744177664))) (.b2 .le (.blen (.str 0)) (.lit (9223372036854775807))))), (.tup (.cons (.hs .no (.cons (.int .u8) .nil) (.vapp 12 (.cons (.opq 0) (.cons (.str 0) .nil)))) (.cons (.err (.iapp 10 (.cons (.str 0) .nil))) .nil))), ⟨0, 0, 1, 1⟩, none⟩
theorem tcg_textq : tcc_textq.Good Tryd.prog syG (tcE [] [] [] []) := by
 exact text_all (fun c s h => by
   obtain ⟨a, b, d⟩ := h
   have b2 : (((Sy.rows c).length / 1 : Nat) : Int) ≤ 70368744177664 := b
   have d2 : (s.size : Int) ≤ 9223372036854775807 := d
   exact ⟨okR_iff.1 a, by omega, by omega⟩) (fun _ _ _ => rfl) (fun _ s _ => by
   show errVal _ (pteI s) = _
   unfold pteI
   split
   · rfl
   · rfl)
abbrev tcc_left : MCon := ⟨29, 0, [(.hs .no (.cons (.int .u8) .nil) (.opq 0)), (.bool (.bvar 0))], (.bapp 0 (.cons (.opq 0) .nil)), (.int .i64 (.ofI (.vop (.len 1) (.cons (.opq 0) .nil)))), [(.hs .no (.cons (.int .u8) .nil) (.opq 0)), (.bool (.bvar 0))], ⟨0, 1, 1, 0⟩⟩
theorem tcg_left : tcc_left.Good Tryd.prog syG (tcE [] [] [] []) := by
 exact look_good (fun l s => .int .i64 l.length) (fun w g l sh h hl => left_cG w g l sh h hl) (fun c sh h => okR_iff.1 h) (fun c sh β o ok w => by
   show Value.int .i64 _ = Value.int .i64 _
   rw [byL_len]
   refine congrArg (Value.int .i64) ?_
   show (((Sy.rows c).length : Nat) : Int) = (((Sy.rows c).length / 1 : Nat) : Int)
   rw [Nat.div_one])
end Go.Proofs.YtmlidfpjeomcmaaDoor
